"""Promises [60] and [61]."""

import random
import unittest

from callersrights.checks import first_fail, last_end, outcome
from callersrights.errors import InvalidItem, InvalidList, InvalidNumber, InvalidPlace, InvalidProgram, UnknownName
from callersrights.library import Library
from callersrights.live import Live
from callersrights.programs import Program, places
from callersrights.runs import is_run, stack_of, walk_of
from callersrights.strangers import passes_over, with_stranger
from fixpoint import Fixpoint, Missed
from reference import Explored
from samples import Case, dense_program, lists_in, nested, nested_path, odd_values, one_function, open_program
from samples import random_program, size, spoil, store, two_functions

RIGHTS = ["read", "write"]


def roomy():
    """A program with steps back to a stranger, at the top and deep within others."""
    functions = [
        ("main", "app", [("back",), ("call", "save"), ("loop", [("back",), ("check", "read")])]),
        ("save", "lib", [("either", [("block", True, [("back",)])], [("block", False, [("back",), ("tail", "log")])])]),
        ("log", "lib", []),
    ]
    return Program(RIGHTS, [("app", ["write", "read"]), ("lib", [])], functions)


def many(owners, functions):
    """A program of so many owners and functions."""
    names = ["a", "b", "c", "d", "e", "f"]
    owned = [(name, []) for name in names[:owners]]
    return Program(RIGHTS, owned, [(name, "a", []) for name in names[:functions]])


class TestWithStranger(Case):
    def test_the_documents_example(self):
        wild = with_stranger(store(), [], ["save"], first=True)
        self.assertEqual(outcome(wild, ("save", (0, 0))), "passes")
        self.assertEqual(outcome(wild, ("save", (1, 0, 0))), "fails")
        self.assertEqual(outcome(wild, ("main", (1, 0))), "never")
        self.assertEqual(len(passes_over(wild, "stranger", ("save", (0, 0)))), 2)

    def spelled_out(self):
        """The owners and functions, but for the stranger's, of what `roomy` becomes."""
        call = ("call", "stranger")
        functions = [
            ("main", "app", [call, ("call", "save"), ("loop", [call, ("check", "read")])]),
            ("save", "lib", [("either", [("block", True, [call])], [("block", False, [call, ("tail", "log")])])]),
            ("log", "lib", []),
        ]
        return [("app", ["write", "read"]), ("lib", [])], functions

    def test_the_stranger_last(self):
        owners, functions = self.spelled_out()
        made = with_stranger(roomy(), ["read"], ["save", "main"])
        loops = [("loop", [("call", "save")]), ("loop", [("call", "main")])]
        self.assertIsInstance(made, Program)
        self.assertEqual(made.rights(), RIGHTS)
        self.assertEqual(made.owners(), owners + [("stranger", ["read"])])
        self.assertEqual(made.functions(), functions + [("stranger", "stranger", [("loop", loops)])])
        self.assertEqual(with_stranger(roomy(), ["read"], ["save", "main"], first=False), made)

    def test_the_stranger_first(self):
        owners, functions = self.spelled_out()
        made = with_stranger(roomy(), ["read"], ["save", "main"], first=True)
        loops = [("loop", [("call", "save")]), ("loop", [("call", "main")])]
        self.assertEqual(made.rights(), RIGHTS)
        self.assertEqual(made.owners(), owners + [("stranger", ["read"])])
        self.assertEqual(made.functions(), [("stranger", "stranger", [("loop", loops)])] + functions)

    def test_by_name(self):
        made = with_stranger(opened=["save"], first=True, rights=["read"], program=roomy())
        self.assertEqual(made, with_stranger(roomy(), ["read"], ["save"], first=True))
        with self.assertRaises(TypeError):
            with_stranger(roomy(), ["read"], ["save"], True)

    def test_lists_in_any_order(self):
        for opened in (["main", "save", "log"], ["log", "main", "save"], ["save"]):
            for rights in (["read", "write"], ["write", "read"], ["write"]):
                made = with_stranger(roomy(), rights, opened)
                self.assertEqual(made.owners()[-1], ("stranger", rights))
                loops = [("loop", [("call", name)]) for name in opened]
                self.assertEqual(made.functions()[-1], ("stranger", "stranger", [("loop", loops)]))

    def test_empty_lists(self):
        made = with_stranger(roomy(), [], [])
        self.assertEqual(made.owners()[-1], ("stranger", []))
        self.assertEqual(made.functions()[-1], ("stranger", "stranger", [("loop", [])]))
        self.assertEqual(last_end(with_stranger(roomy(), [], [], first=True)), [("end", "stranger")])

    def test_back_however_deep(self):
        for depth in (1, 2, 3, 4, 12):
            for step in (("back",), ("check", "read")):
                body = nested(step, depth)
                made = with_stranger(one_function(body), [], ["f"])
                self.assertEqual(len(places(made, "back")), 0)
                backs = places(one_function(body), "back")
                self.assertEqual([place for place in places(made, "call") if place[0] == "f"], backs)
                if step == ("back",):
                    self.assertIn(("f", nested_path(depth)), backs)

    def test_nothing_but_back_is_turned(self):
        for seed in range(60):
            program = random_program(seed)
            made = with_stranger(program, [], [])
            turned = repr(program.functions()).replace("('back',)", "('call', 'stranger')")
            self.assertEqual(repr(made.functions()[:-1]), turned)

    def test_back_within_marks_hands_on_the_owners_rights(self):
        body = [("block", True, [("back",)]), ("either", [("check", "read")], [])]
        program = one_function(body)
        made = with_stranger(program, ["write"], ["f"])
        self.assertEqual(outcome(made, ("f", (1, 0, 0))), "both")
        run = [("call", ("f", (0, 0))), ("call", ("stranger", (0, 0, 0))), ("call", ("f", (0, 0)))]
        self.assertTrue(is_run(made, run))
        self.assertEqual(stack_of(made, run), ["f", "stranger", "f", "stranger"])

    def test_a_stranger_calls_any_number_of_times_in_any_order(self):
        made = with_stranger(roomy(), [], ["save", "log"], first=True)
        log, save = ("call", ("stranger", (0, 1, 0))), ("call", ("stranger", (0, 0, 0)))
        run = [log, ("end", "log"), log, ("end", "log"), save, ("call", ("save", (0, 0, 0, 0))), ("end", "stranger"),
               ("end", "save"), log, ("end", "log"), ("end", "stranger")]
        for stop in range(len(run) + 1):
            self.assertTrue(is_run(made, run[:stop]))

    def test_room(self):
        self.assertEqual(len(with_stranger(many(4, 5), RIGHTS, ["a", "b", "c", "d", "e"]).owners()), 5)
        for program in (many(5, 5), many(4, 6), many(5, 6), many(5, 1), many(1, 6)):
            self.refuses(InvalidProgram, program, with_stranger, program, None, None)
        program = Program(RIGHTS, [("app", []), ("stranger", [])], [("f", "app", [])])
        self.refuses(InvalidProgram, program, with_stranger, program, [], [])
        program = Program(RIGHTS, [("app", [])], [("f", "app", []), ("stranger", "app", [])])
        self.refuses(InvalidProgram, program, with_stranger, program, [], [])
        made = with_stranger(roomy(), [], [])
        self.refuses(InvalidProgram, made, with_stranger, made, [], [])
        program = Program(["stranger"], [("strange", [])], [("f", "strange", [])])
        self.assertEqual(with_stranger(program, ["stranger"], ["f"]).owners()[1], ("stranger", ["stranger"]))

    def test_refused_programs(self):
        for value in odd_values() + [Live(roomy()), Library(roomy())]:
            if not isinstance(value, Program):
                for behind in (None, []):
                    self.refuses(InvalidProgram, value, with_stranger, value, behind, behind, first=behind)
                self.refuses(InvalidProgram, value, passes_over, value, None, None)

    def test_refused_lists(self):
        for value in odd_values() + [("read",), ("save",), {"save": 1}]:
            if not isinstance(value, list):
                self.refuses(InvalidList, value, with_stranger, roomy(), value, None, first=None)
                self.refuses(InvalidList, value, with_stranger, roomy(), [], value, first=None)

    def test_refused_items(self):
        for value in odd_values():
            if value != "read":
                self.refuses(InvalidItem, value, with_stranger, roomy(), [value], None, first=0)
                self.refuses(InvalidItem, value, with_stranger, roomy(), ["read", value, None], None)
            self.refuses(InvalidItem, value, with_stranger, roomy(), [], [value], first=0)
            self.refuses(InvalidItem, value, with_stranger, roomy(), ["read"], ["main", value, None])
        for value in ("app", "main", "stranger"):
            self.refuses(InvalidItem, value, with_stranger, roomy(), ["write", value], ["save"])
        for value in ("app", "read", "stranger"):
            self.refuses(InvalidItem, value, with_stranger, roomy(), ["write"], ["save", value])

    def test_the_very_item_that_is_there_twice(self):
        again = "".join(["re", "ad"])
        self.refuses(InvalidItem, again, with_stranger, roomy(), ["read", "write", again, "x"], None)
        again = "".join(["sa", "ve"])
        self.refuses(InvalidItem, again, with_stranger, roomy(), [], ["main", "save", again, "x"])

    def test_refused_first(self):
        for value in odd_values():
            if not isinstance(value, bool):
                self.refuses(InvalidNumber, value, with_stranger, roomy(), ["read"], ["save"], first=value)

    def test_order_of_refusals(self):
        full = many(5, 6)
        self.refuses(InvalidProgram, full, with_stranger, full, (), (), first=2)
        self.refuses(InvalidList, (), with_stranger, roomy(), (), None, first=2)
        self.refuses(InvalidItem, "no", with_stranger, roomy(), ["no"], (), first=2)
        self.refuses(InvalidList, None, with_stranger, roomy(), ["read"], None, first=2)
        self.refuses(InvalidItem, "no", with_stranger, roomy(), ["read"], ["no"], first=2)
        self.refuses(InvalidNumber, 2, with_stranger, roomy(), ["read"], ["save"], first=2)

    def test_arguments_are_not_changed_and_not_kept(self):
        program, rights, opened = roomy(), ["write", "read"], ["save", "log"]
        made = with_stranger(program, rights, opened)
        self.assertEqual((rights, opened), (["write", "read"], ["save", "log"]))
        self.assertEqual(program, roomy())
        before = repr((made.rights(), made.owners(), made.functions()))
        spoil([rights, opened, made.owners(), made.functions(), program.functions(), program.owners()])
        self.assertEqual(repr((made.rights(), made.owners(), made.functions())), before)
        self.assertEqual(program, roomy())
        found = lists_in([made.rights(), made.owners(), made.functions()])
        self.assertEqual(len({id(part) for part in found}), len(found))

    def test_a_refused_call_changes_nothing(self):
        program, rights, opened = roomy(), ["read", "no"], ["save"]
        self.refuses(InvalidItem, rights[1], with_stranger, program, rights, opened)
        self.assertEqual((program, rights, opened), (roomy(), ["read", "no"], ["save"]))


class TestPassesOver(Case):
    def test_the_documents_program(self):
        run = [("call", ("main", (0,))), ("check", ("save", (0, 0)))]
        self.assertEqual(passes_over(store(), "app", ("save", (0, 0))), run)
        self.assertIsNone(passes_over(store(), "lib", ("save", (0, 0))))
        self.assertIsNone(passes_over(store(), "app", ("save", (1, 0, 0))))
        self.assertIsNone(passes_over(program=store(), place=("main", (1, 0)), owner="lib"))

    def test_a_frame_that_is_met_is_not_passed_over(self):
        program = two_functions([("call", "g")], [("check", "read"), ("block", True, [("check", "read")])])
        self.assertIsNone(passes_over(program, "app", ("g", (0,))))
        self.assertEqual(size(passes_over(program, "app", ("g", (1, 0)))), 3)
        self.assertIsNone(passes_over(program, "lib", ("g", (1, 0))))

    def test_the_marked_frame_itself_is_met(self):
        program = two_functions([("block", True, [("call", "g")])], [("check", "read")])
        self.assertIsNone(passes_over(program, "app", ("g", (0,))))
        program = two_functions([("block", True, [("check", "read")])], [])
        self.assertIsNone(passes_over(program, "app", ("f", (0, 0))))

    def test_behind_a_mark_further_down(self):
        functions = [("a", "x", [("call", "b")]), ("b", "y", [("block", True, [("call", "c")])]),
                     ("c", "z", [("check", "r")])]
        program = Program(["r"], [("x", []), ("y", ["r"]), ("z", ["r"])], functions)
        run = [("call", ("a", (0,))), ("call", ("b", (0, 0))), ("check", ("c", (0,)))]
        self.assertEqual(passes_over(program, "x", ("c", (0,))), run)
        self.assertIsNone(passes_over(program, "y", ("c", (0,))))
        self.assertIsNone(passes_over(program, "z", ("c", (0,))))

    def test_behind_two_marks(self):
        functions = [("a", "x", [("block", True, [("call", "b")])]), ("b", "y", [("block", True, [("call", "c")])]),
                     ("c", "z", [("block", True, [("check", "r")])])]
        program = Program(["r"], [("x", ["r"]), ("y", ["r"]), ("z", ["r"])], functions)
        self.assertEqual(size(passes_over(program, "x", ("c", (0, 0)))), 3)
        self.assertEqual(size(passes_over(program, "y", ("c", (0, 0)))), 3)
        self.assertIsNone(passes_over(program, "z", ("c", (0, 0))))

    def test_a_call_that_is_over_leaves_no_mark(self):
        program = two_functions([("block", True, [("call", "g")]), ("call", "g")], [("either", [("check", "read")], [])])
        self.assertIsNone(passes_over(program, "app", ("g", (0, 0, 0))))

    def test_a_frame_of_the_same_owner_may_be_met_as_well(self):
        body = [("either", [("block", True, [("call", "f")])], [("check", "read")])]
        program = one_function(body)
        run = [("call", ("f", (0, 0, 0, 0))), ("call", ("f", (0, 0, 0, 0))), ("check", ("f", (0, 1, 0)))]
        self.assertEqual(passes_over(program, "app", ("f", (0, 1, 0))), run)

    def test_a_frame_that_was_replaced_is_not_there(self):
        functions = [("a", "x", [("either", [("tail", "b")], [("check", "r"), ("call", "b")])]),
                     ("b", "y", [("block", True, [("check", "r")])])]
        program = Program(["r"], [("x", ["r"]), ("y", ["r"])], functions)
        run = [("check", ("a", (0, 1, 0))), ("call", ("a", (0, 1, 1))), ("check", ("b", (0, 0)))]
        self.assertEqual(passes_over(program, "x", ("b", (0, 0))), run)
        functions[0] = ("a", "x", [("tail", "b")])
        self.assertIsNone(passes_over(Program(["r"], [("x", ["r"]), ("y", ["r"])], functions), "x", ("b", (0, 0))))

    def test_a_tail_call_keeps_what_is_below(self):
        functions = [("a", "x", [("call", "b")]), ("b", "y", [("tail", "c")]),
                     ("c", "z", [("block", True, [("check", "r")])])]
        program = Program(["r"], [("x", []), ("y", []), ("z", ["r"])], functions)
        self.assertEqual(size(passes_over(program, "x", ("c", (0, 0)))), 3)
        self.assertIsNone(passes_over(program, "y", ("c", (0, 0))))

    def test_a_check_that_fails_is_none(self):
        program = two_functions([("call", "g")], [("block", True, [("check", "write")])], [], ["read"])
        self.assertIsNone(passes_over(program, "app", ("g", (0, 0))))

    def test_a_check_that_is_never_reached(self):
        self.assertIsNone(passes_over(two_functions([], [("check", "read")]), "app", ("g", (0,))))

    def test_the_shorter_of_two_ways(self):
        body = [("either", [("check", "read"), ("check", "read"), ("block", True, [("call", "g")])],
                 [("call", "h"), ("call", "g")])]
        functions = [("f", "x", body), ("g", "y", [("block", True, [("check", "read")])]), ("h", "y", [])]
        program = Program(["read"], [("x", ["read"]), ("y", ["read"])], functions)
        self.assertEqual(size(passes_over(program, "x", ("g", (0, 0)))), 4)

    def test_a_program_with_a_stranger(self):
        functions = [("main", "app", [("back",), ("block", True, [("back",)])]), ("save", "lib", [("check", "write")])]
        program = Program(RIGHTS, [("app", ["read", "write"]), ("lib", ["write"])], functions)
        made = with_stranger(program, ["write"], ["save", "main"])
        run = passes_over(made, "stranger", ("save", (0,)))
        self.assertEqual(len(run), 7)
        self.assertTrue(is_run(made, run))
        self.assertEqual(stack_of(made, run), ["main", "stranger", "main", "stranger", "save"])
        made = with_stranger(program, [], ["save", "main"])
        self.assertIsNone(passes_over(made, "stranger", ("save", (0,))))
        made = with_stranger(store(), [], ["main"], first=True)
        self.assertEqual(size(passes_over(made, "stranger", ("save", (0, 0)))), 3)
        self.assertEqual([event[0] for event in first_fail(made)], ["call", "call", "check", "fail"])

    def test_refused_owners(self):
        for value in odd_values() + ["main", "save", "stranger", ("app", ["read"]), ["app"]]:
            self.refuses(UnknownName, value, passes_over, store(), value, ("save", (0, 0)))
            self.refuses(UnknownName, value, passes_over, store(), value, None)

    def test_refused_places(self):
        wrong = [("main", (0,)), ("main", (1,)), ("save", (0,)), ("save", (1, 1, 0)), ["save", (0, 0)]]
        for value in odd_values() + wrong:
            self.refuses(InvalidPlace, value, passes_over, store(), "app", value)


class TestAgainstOtherWays(Case):
    def is_over(self, explored, owner, place):
        reference = explored.reference

        def wanted(run, stack, _):
            if run[-1] != ("check", place):
                return False
            missed = stack[:len(stack) - len(reference.walk(stack, place[1]))]
            return any(reference.owner_of[name] == owner for name, _ in missed)

        return wanted

    def compare(self, program, depth, most=1500):
        explored = Explored(program, depth, most)
        fixpoint = Fixpoint(Missed(program))
        found = 0
        for place in places(program, "check"):
            for owner, _ in program.owners():
                run = passes_over(program, owner, place)
                counted = fixpoint.shortest(
                    lambda word, spot, standing, right:
                    word == "check" and spot == place and right in standing[0] and owner in standing[2])
                self.assertEqual(size(run), counted)
                self.beside_brute(run, explored.shortest(self.is_over(explored, owner, place)), explored.depth)
                if run is not None:
                    found += 1
                    self.check_run(program, owner, place, run)
        return found

    def check_run(self, program, owner, place, run):
        self.assertTrue(is_run(program, run))
        self.assertEqual(run[-1], ("check", place))
        owner_of = {name: other for name, other, _ in program.functions()}
        stack, walk = stack_of(program, run), walk_of(program, run)
        self.assertEqual(stack[::-1][:len(walk)], walk)
        self.assertIn(owner, [owner_of[name] for name in stack[:len(stack) - len(walk)]])

    def test_random_programs(self):
        self.assertGreater(sum(self.compare(random_program(30000 + seed), 8) for seed in range(400)), 50)

    def test_dense_programs(self):
        self.assertGreater(sum(self.compare(dense_program(30000 + seed, steps=7), 6) for seed in range(150)), 150)

    def test_open_programs(self):
        self.assertGreater(sum(self.compare(open_program(30000 + seed), 6) for seed in range(300)), 100)

    def test_programs_with_strangers(self):
        found = 0
        for seed in range(240):
            chance = random.Random(seed)
            program = (random_program, open_program)[seed % 2](40000 + seed)
            names = [name for name, _, _ in program.functions()]
            opened = chance.sample(names, chance.randint(1, len(names)))
            rights = [right for right in program.rights() if chance.random() < 0.5]
            made = with_stranger(program, rights, opened, first=chance.random() < 0.5)
            found += self.compare(made, 6, 600)
        self.assertGreater(found, 100)


if __name__ == "__main__":
    unittest.main()
