"""Promises [55] to [57]."""

import random
import unittest

from callersrights.books import with_book
from callersrights.errors import InvalidPlace, InvalidProgram
from callersrights.marks import first_unlike, forgotten, spare_marks
from callersrights.programs import Program, places, step_at
from callersrights.runs import is_run
from fixpoint import Both, Fixpoint, Stayed
from reference import Explored, Reference, first_difference
from samples import Case, dense_program, odd_values, open_program, size, some_program, store, two_functions

HOP = [("main", "app", [("tail", "save")]),
       ("save", "lib", [("check", "write"), ("block", True, [("check", "write")])])]


def hop(owned=("read", "write")):
    """The programs of the document's example."""
    return Program(["read", "write"], [("app", ["read"]), ("lib", list(owned))], HOP)


def remade(program, change):
    """A program with other Booleans in its blocks: what `change` tells of each place and its Boolean."""
    def body_of(name, body, base):
        return [step_of(name, step, base + (at,)) for at, step in enumerate(body)]

    def step_of(name, step, path):
        if step[0] == "either":
            return ("either", body_of(name, step[1], path + (0,)), body_of(name, step[2], path + (1,)))
        if step[0] == "loop":
            return ("loop", body_of(name, step[1], path))
        if step[0] == "block":
            return ("block", change((name, path), step[1]), body_of(name, step[2], path))
        return step

    functions = [(name, owner, body_of(name, body, ())) for name, owner, body in program.functions()]
    return Program(program.rights(), program.owners(), functions)


def without(program, *lost):
    """A program in which the blocks at some places are not marked."""
    return remade(program, lambda place, marked: marked and place not in lost)


def is_unlike(event, found, right):
    """Whether a check passes in just one of two programs, by its pair of standings."""
    return event == "check" and (right in found[0]) != (right in found[1])


class TestFirstUnlike(Case):
    def test_the_documents_example(self):
        told = first_unlike(hop(), hop(["read"]))
        self.assertEqual(len(told), 2)
        self.assertNotEqual(is_run(hop(), told), is_run(hop(["read"]), told))
        self.assertEqual(len(first_unlike(program=hop(), other=hop(["read"]))), 2)

    def test_equal_programs(self):
        self.assertIsNone(first_unlike(store(), store()))
        program = hop()
        self.assertIsNone(first_unlike(program, program))

    def test_other_owners(self):
        functions = [(name, "x", body) for name, _, body in HOP]
        for rights, same in [(["read", "write"], True), (["write"], True), (["read"], False), ([], False)]:
            other = Program(["read", "write"], [("x", rights)], functions)
            self.assertIs(first_unlike(hop(), other) is None, same)
            self.assertIs(first_unlike(other, hop()) is None, same)

    def test_rights_that_matter_nowhere(self):
        self.assertIsNone(first_unlike(store(), with_book(store(), [("app", ["read"]), ("lib", ["write"])])))
        self.assertEqual(len(first_unlike(store(), with_book(store(), [("app", ["write"]), ("lib", ["write"])]))), 3)
        told = first_unlike(store(), with_book(store(), [("app", []), ("lib", ["write"])]))
        self.assertEqual(told[-1][1], ("main", (1, 0)))
        self.assertEqual(len(told), 4)

    def test_other_marks(self):
        body, other = [("call", "g")], [("block", True, [("check", "write")])]
        one = two_functions(body, other)
        two = two_functions(body, [("block", False, other[0][2])])
        told = first_unlike(one, two)
        self.assertEqual(len(told), 2)
        self.assertIn(told[-1], [("check", ("g", (0, 0))), ("fail", ("g", (0, 0)))])
        self.assertNotEqual(is_run(one, told), is_run(two, told))
        self.assertIsNone(first_unlike(two_functions(body, other, ["write"]), two_functions(body, [
            ("block", False, other[0][2])], ["write"])))

    def test_nothing_behind_where_both_fail(self):
        body = [("check", "write"), ("call", "g")]
        one = two_functions(body, [("check", "read")])
        two = two_functions(body, [("check", "read")], ["read"], [])
        self.assertIsNone(first_unlike(one, two))

    def test_far_ways(self):
        functions = [("a", "x", [("call", "b")] * 10 + [("check", "r")]), ("b", "y", [("call", "c")] * 12),
                     ("c", "y", [("block", True, [("check", "s")])])]
        one = Program(["r", "s"], [("x", ["r"]), ("y", ["s"])], functions)
        two = Program(["r", "s"], [("x", []), ("y", ["s"])], functions)
        told = first_unlike(one, two)
        self.assertEqual(len(told), 10 * (2 + 12 * 3) + 1)
        self.assertNotEqual(is_run(one, told), is_run(two, told))

    def test_other_programs_that_do_not_fit(self):
        rights, owners, functions = store().rights(), store().owners(), store().functions()
        main, save = functions
        wrong = [
            Program(["read", "write", "more"], owners, functions), Program(["write", "read"], owners, functions),
            Program(rights, owners, [save, main]), Program(rights, owners, functions + [("more", "app", [])]),
            Program(rights, owners, [("main", "app", main[2] + [("back",)]), save]),
            Program(rights, owners, [("main", "app", main[2][:1]), save]),
            Program(rights, owners, [("main", "app", main[2][:1] + [("loop", [("check", "write")])]), save]),
            Program(rights, owners, [("main", "app", [("tail", "save"), main[2][1]]), save]),
            Program(rights, owners, [("main", "app", [("call", "main"), main[2][1]]), save]),
            Program(rights, owners, [("main", "app", [main[2][0], ("block", False, main[2][1][1])]), save]),
            Program(rights, owners, [main, ("save", "lib", [save[2][0], ("either", [], save[2][1][1])])]),
            Program(rights, owners, [main, ("save", "lib", [("block", True, [("check", "read")]), save[2][1]])]),
            Program(rights, owners, [main, ("save", "lib", [("loop", [("check", "write")]), save[2][1]])]),
            Program(rights, owners, [("other", "app", []), save]),
        ]
        program = store()
        for other in wrong:
            self.refuses(InvalidProgram, other, first_unlike, program, other)
            self.refuses(InvalidProgram, program, first_unlike, other, program)

    def test_refused_programs(self):
        for value in odd_values():
            if not isinstance(value, Program):
                self.refuses(InvalidProgram, value, first_unlike, value, None)
                self.refuses(InvalidProgram, value, first_unlike, store(), value)
                self.refuses(InvalidProgram, value, spare_marks, value)
                self.refuses(InvalidProgram, value, forgotten, value, None)

    def other_of(self, program, seed):
        """A program like another one, with other marks, rights and owners by chance."""
        chance = random.Random(seed)

        def mark(place, marked):
            # No mark where a tail call stands within.
            if any(tail[0] == place[0] and tail[1][:len(place[1])] == place[1] for tail in places(program, "tail")):
                return False
            return marked != (chance.random() < 0.15)

        made = remade(program, mark)
        owners = [(name, [right for right in made.rights() if (right in owned) != (chance.random() < 0.1)])
                  for name, owned in made.owners()]
        functions = made.functions()
        if chance.random() < 0.3:
            functions = [(name, chance.choice(owners)[0], body) for name, _, body in functions]
        return Program(made.rights(), owners, functions)

    def test_beside_other_ways(self):
        alike = 0
        for seed in range(400):
            program = some_program(seed)
            other = self.other_of(program, seed)
            told = first_unlike(program, other)
            counted = Fixpoint(Both(program, other)).shortest(
                lambda word, place, found, right: is_unlike(word, found, right))
            self.assertEqual(size(told), counted)
            alike += told is None
            brute = first_difference(program, other, 6, 600)
            if brute != "far":
                self.assertEqual(size(told), brute)
            elif told is not None:
                self.assertGreaterEqual(len(told), 3)
            if told is not None:
                self.assertNotEqual(is_run(program, told), is_run(other, told))
                self.assertTrue(is_run(program, told[:-1]) and is_run(other, told[:-1]))
        self.assertGreater(alike, 50)
        self.assertLess(alike, 350)


class TestSpareMarks(Case):
    def test_the_documents_example(self):
        self.assertEqual(spare_marks(hop()), [("save", (1,))])
        self.assertEqual(spare_marks(program=hop()), [("save", (1,))])
        self.assertEqual(spare_marks(store()), [])

    def test_only_marked_blocks(self):
        program = two_functions([("block", False, []), ("block", True, [])], [("block", True, []), ("loop", [])])
        self.assertEqual(spare_marks(program), [("f", (1,)), ("g", (0,))])

    def test_in_the_order_of_places(self):
        inner = [("block", True, []), ("either", [("block", True, [])], [("loop", [("block", True, [])])])]
        program = two_functions([("block", True, inner)], [("block", True, [])])
        program = Program(program.rights(), program.owners(), list(reversed(program.functions())))
        self.assertEqual(spare_marks(program), places(program, "block"))

    def test_a_mark_within_a_mark(self):
        # Each of the two is enough, so each alone can go, but not both.
        other = [("block", True, [("block", True, [("check", "write")])])]
        program = two_functions([("call", "g")], other)
        self.assertEqual(spare_marks(program), [("g", (0,)), ("g", (0, 0))])
        self.assertIsNone(first_unlike(program, without(program, ("g", (0,)))))
        self.assertIsNotNone(first_unlike(program, without(program, ("g", (0,)), ("g", (0, 0)))))

    def test_an_outer_mark_that_is_needed_beside(self):
        other = [("block", True, [("block", True, [("check", "write")]), ("check", "write")])]
        program = two_functions([("call", "g")], other)
        self.assertEqual(spare_marks(program), [("g", (0, 0))])

    def test_two_frames_of_which_one_needs_its_mark(self):
        functions = [("a", "x", [("call", "b")]), ("b", "y", [("block", True, [("call", "c")])]),
                     ("c", "y", [("block", True, [("check", "r")])])]
        program = Program(["r"], [("x", []), ("y", ["r"])], functions)
        self.assertEqual(spare_marks(program), [("b", (0,)), ("c", (0,))])
        self.assertIsNotNone(first_unlike(program, without(program, ("b", (0,)), ("c", (0,)))))

    def test_a_mark_that_changes_only_a_fail(self):
        functions = [("a", "x", [("call", "b")]), ("b", "y", [("block", True, [("check", "r")])])]
        for owned, wanted in [([], [("b", (0,))]), (["r"], [])]:
            program = Program(["r"], [("x", []), ("y", owned)], functions)
            self.assertEqual(spare_marks(program), wanted)

    def test_a_change_far_away(self):
        # Only behind a call that takes far more events than any run that is asked for.
        functions = [("a", "x", [("call", "b")] * 13 + [("call", "f")]), ("b", "x", [("call", "c")] * 14),
                     ("c", "x", [("call", "d")] * 14), ("d", "x", [("call", "e")] * 14),
                     ("e", "x", [("block", True, [("check", "s")])] * 7), ("f", "y", [("block", True, [("check", "r")])])]
        program = Program(["r", "s"], [("x", ["s"]), ("y", ["r"])], functions)
        self.assertEqual(spare_marks(program), [("e", (at,)) for at in range(7)])

    def test_beside_other_ways(self):
        spare = 0
        for seed in range(80):
            program = some_program(seed)
            told = spare_marks(program)
            marked = [place for place in places(program, "block") if step_at(program, place)[1]]
            self.assertEqual(told, [place for place in marked if place in told])
            spare += len(told)
            for place in marked:
                other = without(program, place)
                counted = Fixpoint(Both(program, other)).shortest(
                    lambda word, _, found, right: is_unlike(word, found, right))
                self.assertIs(counted is None, place in told)
                brute = first_difference(program, other, 5, 400)
                if brute != "far":
                    self.assertIs(brute is None, place in told)
        self.assertGreater(spare, 20)


class TestForgotten(Case):
    def test_the_documents_example(self):
        run = [("tail", ("main", (0,))), ("check", ("save", (0,)))]
        self.assertEqual(forgotten(hop(), ("save", (0,))), run)
        self.assertEqual(forgotten(program=hop(), place=("save", (0,))), run)
        self.assertIsNone(forgotten(hop(), ("save", (1, 0))))

    def test_nothing_to_forget(self):
        self.assertIsNone(forgotten(store(), ("save", (0, 0))))
        self.assertIsNone(forgotten(store(), ("main", (1, 0))))
        program = two_functions([("tail", "g")], [("check", "read")])
        self.assertIsNone(forgotten(program, ("g", (0,))))

    def test_a_check_that_fails_is_not_forgotten(self):
        self.assertIsNone(forgotten(hop(["read"]), ("save", (0,))))

    def test_a_tail_call_behind_a_tail_call(self):
        functions = [("a", "x", [("tail", "b")]), ("b", "y", [("tail", "c")]), ("c", "z", [("check", "r")])]
        for first, second, told in [([], ["r"], True), (["r"], [], True), (["r"], ["r"], False)]:
            program = Program(["r"], [("x", first), ("y", second), ("z", ["r"])], functions)
            run = [("tail", ("a", (0,))), ("tail", ("b", (0,))), ("check", ("c", (0,)))]
            self.assertEqual(forgotten(program, ("c", (0,))), run if told else None)

    def test_a_call_behind_a_tail_call(self):
        functions = [("a", "x", [("tail", "b")]), ("b", "y", [("call", "c")]), ("c", "z", [("check", "r")])]
        program = Program(["r"], [("x", []), ("y", ["r"]), ("z", ["r"])], functions)
        run = [("tail", ("a", (0,))), ("call", ("b", (0,))), ("check", ("c", (0,)))]
        self.assertEqual(forgotten(program, ("c", (0,))), run)
        functions[1] = ("b", "y", [("block", True, [("call", "c")])])
        program = Program(["r"], [("x", []), ("y", ["r"]), ("z", ["r"])], functions)
        self.assertIsNone(forgotten(program, ("c", (0,))))

    def test_a_tail_call_in_a_function_called_within_a_marked_block(self):
        functions = [("a", "x", [("block", True, [("call", "b")])]), ("b", "y", [("tail", "c")]),
                     ("c", "x", [("check", "r")])]
        program = Program(["r"], [("x", ["r"]), ("y", [])], functions)
        run = [("call", ("a", (0, 0))), ("tail", ("b", (0,))), ("check", ("c", (0,)))]
        self.assertEqual(forgotten(program, ("c", (0,))), run)
        # What is below the marked frame is met in neither case.
        functions = [("d", "y", [("tail", "a")])] + functions[:1]
        functions += [("b", "x", [("tail", "c")]), ("c", "x", [("check", "r")])]
        program = Program(["r"], [("x", ["r"]), ("y", [])], functions)
        self.assertIsNone(forgotten(program, ("c", (0,))))

    def test_frames_that_stayed_leave_together(self):
        functions = [("a", "x", [("call", "b"), ("call", "c")]), ("b", "y", [("tail", "c")]),
                     ("c", "x", [("loop", [("check", "r")])])]
        program = Program(["r"], [("x", ["r"]), ("y", [])], functions)
        run = [("call", ("a", (0,))), ("tail", ("b", (0,))), ("check", ("c", (0, 0)))]
        self.assertEqual(forgotten(program, ("c", (0, 0))), run)
        functions[0] = ("a", "x", [("call", "b"), ("check", "r")])
        program = Program(["r"], [("x", ["r"]), ("y", [])], functions)
        self.assertIsNone(forgotten(program, ("a", (1,))))

    def test_checks_ahead_count_as_they_are(self):
        functions = [("a", "x", [("tail", "b")]), ("b", "y", [("check", "r"), ("check", "s")])]
        program = Program(["r", "s"], [("x", []), ("y", ["r", "s"])], functions)
        run = [("tail", ("a", (0,))), ("check", ("b", (0,))), ("check", ("b", (1,)))]
        self.assertEqual(forgotten(program, ("b", (1,))), run)
        self.assertEqual(forgotten(program, ("b", (0,))), run[:2])

    def test_refused_places(self):
        wrong = [("main", (0,)), ("save", (1,)), ("save", (False,)), ("save", (2,)), ("other", (0,)), ["save", (0,)]]
        for place in wrong + odd_values():
            self.refuses(InvalidPlace, place, forgotten, hop(), place)

    def shadow_behind(self, reference, shadow, event):
        """The frames that would be there if those with tail calls had stayed: (name, is marked, has stayed)."""
        frames = list(shadow)
        if event[0] in ("call", "tail"):
            name, path = event[1]
            target = reference.body_at(name, path[:-1])[path[-1]][1]
            frames[-1] = (name, reference.marked_at(name, path), event[0] == "tail")
            frames.append((target, False, False))
        if event[0] == "end":
            frames.pop()
            while frames and frames[-1][2]:
                frames.pop()
        return tuple(frames)

    def would_fail(self, reference, shadow, event):
        name, path = event[1]
        right = reference.body_at(name, path[:-1])[path[-1]][1]
        met = [shadow[-1][0]]
        if not reference.marked_at(name, path):
            for other, marked, _ in reversed(shadow[:-1]):
                met.append(other)
                if marked:
                    break
        return any(right not in reference.rights_of[reference.owner_of[other]] for other in met)

    def test_beside_other_ways(self):
        told = 0
        for seed in range(200):
            program = open_program(seed) if seed % 3 else dense_program(seed)
            reference = Reference(program)
            start = ((reference.first, False, False),)
            explored = Explored(program, 6, 800, start, lambda shadow, event: self.shadow_behind(
                reference, shadow, event))
            fixpoint = Fixpoint(Stayed(program))
            for place in places(program, "check"):
                def wanted(run, stack, shadow):
                    return run[-1] == ("check", place) and self.would_fail(reference, shadow, run[-1])

                run = forgotten(program, place)
                self.assertEqual(size(run), fixpoint.shortest(
                    lambda word, where, found, right: where == place and right in found[0] and right not in found[1]))
                self.beside_brute(run, explored.shortest(wanted), explored.depth)
                if run is not None:
                    told += 1
                    self.assertTrue(is_run(program, run))
                    shadow = start
                    for event in run[:-1]:
                        shadow = self.shadow_behind(reference, shadow, event)
                    self.assertTrue(wanted(run, None, shadow))
        self.assertGreater(told, 20)


if __name__ == "__main__":
    unittest.main()
