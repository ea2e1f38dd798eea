"""Promises [20] and [21]."""

import unittest

from callersrights.errors import InvalidList, InvalidPlace, InvalidProgram, UnknownName
from callersrights.programs import Program, places
from callersrights.runs import is_run, stack_of
from callersrights.standings import can_end, held, run_to
from fixpoint import NEVER, Fixpoint, Rights
from reference import Explored
from samples import Case, choices, dense_program, odd_values, one_function, open_program, random_program, size
from samples import some_program, store, two_functions

EVENT_STEPS = ("call", "tail", "check")


def trio(first, second, third, rights=(["read"], ["write"], ["read", "write"])):
    """A program of the functions a, b, c with the owners x, y, z."""
    functions = [("a", "x", first), ("b", "y", second), ("c", "z", third)]
    return Program(["write", "read"], list(zip("xyz", [list(owned) for owned in rights])), functions)


class TestHeld(Case):
    def test_the_documents_example(self):
        self.assertEqual(held(store(), ("save", (0, 0))), [["read", "write"]])
        self.assertEqual(held(program=store(), place=("save", (0, 0))), [["read", "write"]])

    def test_the_first_frame(self):
        program = one_function([("call", "f"), ("check", "read")], owned=("write", "read"))
        self.assertEqual(held(program, ("f", (0,))), [["read", "write"]])
        program = one_function([("either", [("tail", "f")], [("check", "read")])], owned=())
        self.assertEqual(held(program, ("f", (0, 0, 0))), [[]])
        self.assertEqual(held(program, ("f", (0, 1, 0))), [[]])

    def test_a_call_a_tail_call_and_a_check(self):
        program = trio([("call", "b")], [("either", [("tail", "c")], [("call", "c")])], [("check", "write")])
        self.assertEqual(held(program, ("a", (0,))), [["read"]])
        self.assertEqual(held(program, ("b", (0, 0, 0))), [[]])
        self.assertEqual(held(program, ("b", (0, 1, 0))), [[]])
        # By the tail call c is handed what b was, by the call what b leaves of it.
        self.assertEqual(held(program, ("c", (0,))), [[], ["read"]])

    def test_in_order_of_their_names(self):
        body = [("either", [("call", "b")], [("either", [("call", "c")], [("block", True, [("call", "c")])])])]
        program = trio(body, [("tail", "c")], [("check", "read")], (["read", "write"], [], ["write", "read"]))
        self.assertEqual(held(program, ("c", (0,))), [["write", "read"]])
        program = trio([("loop", [("call", "b")]), ("call", "c")], [("call", "c"), ("block", True, [("call", "c")])],
                       [("check", "read"), ("loop", [("call", "c")])], (["read"], ["write", "read"], ["read", "write"]))
        self.assertEqual(held(program, ("c", (0,))), [["read"], ["write", "read"]])
        self.assertEqual(held(program, ("c", (1, 0))), [["read"], ["write", "read"]])
        program = trio([("call", "b"), ("tail", "c")], [("block", True, [("call", "c")]), ("call", "c")],
                       [("either", [("check", "read")], [])], (["read"], ["write"], ["read", "write"]))
        self.assertEqual(held(program, ("c", (0, 0, 0))), [[], ["write"], ["write", "read"]])

    def test_within_a_marked_block_the_rights_of_the_owner(self):
        third = [("block", True, [("check", "write"), ("call", "a")]), ("block", False, [("check", "write")])]
        program = trio([("call", "b")], [("call", "c")], third)
        self.assertEqual(held(program, ("c", (0, 0))), [["write", "read"]])
        self.assertEqual(held(program, ("c", (0, 1))), [["write", "read"]])
        self.assertEqual(held(program, ("c", (1, 0))), [])
        deep = [("block", True, [("loop", [("block", False, [("either", [("check", "write")], [])])])])]
        program = trio([("call", "b")], [("call", "c")], deep)
        self.assertEqual(held(program, ("c", (0, 0, 0, 0, 0, 0))), [["write", "read"]])

    def test_what_a_marked_block_hands_on(self):
        program = trio([("call", "b")], [("block", True, [("call", "c")])], [("check", "read")])
        self.assertEqual(held(program, ("c", (0,))), [["write"]])

    def test_no_standing_where_no_run_has_an_event(self):
        program = trio([("call", "b"), ("check", "read")], [("check", "read"), ("check", "write")], [("check", "read")])
        self.assertEqual(held(program, ("b", (0,))), [[]])
        self.assertEqual(held(program, ("b", (1,))), [])
        self.assertEqual(held(program, ("a", (1,))), [])
        self.assertEqual(held(program, ("c", (0,))), [])

    def test_behind_a_call_that_never_ends(self):
        program = two_functions([("call", "g"), ("check", "read")], [("call", "g")])
        self.assertEqual(held(program, ("f", (1,))), [])
        self.assertEqual(held(program, ("g", (0,))), [["read"]])
        program = two_functions([("call", "g"), ("check", "read")], [("tail", "g")])
        self.assertEqual(held(program, ("f", (1,))), [])

    def test_nothing_behind_a_tail_call(self):
        program = two_functions([("tail", "g"), ("check", "read")], [])
        self.assertEqual(held(program, ("f", (1,))), [])

    def test_recursion(self):
        body = [("either", [("call", "g")], [("block", True, [("call", "g")])])]
        program = two_functions(body, [("either", [("call", "f")], [("check", "write")])])
        self.assertEqual(held(program, ("g", (0, 1, 0))), [["read"]])
        self.assertEqual(held(program, ("f", (0, 0, 0))), [["read"]])
        program = two_functions(body, [("either", [("call", "f")], [("check", "write")])], ["write"], ["read"])
        self.assertEqual(held(program, ("g", (0, 1, 0))), [[]])
        self.assertEqual(held(program, ("f", (0, 0, 0))), [[], ["write"]])
        self.assertEqual(held(program, ("f", (0, 1, 0, 0))), [["write"]])

    def test_only_what_a_frame_is_handed_matters(self):
        # However deep the stack, g has two standings: with one f below, and with a g called by f below.
        program = two_functions([("loop", [("call", "f")]), ("call", "g")], [("check", "read"), ("call", "g")])
        self.assertEqual(held(program, ("g", (0,))), [["read"]])
        self.assertEqual(held(program, ("g", (1,))), [["read"]])

    def test_refused_places(self):
        program = Program(["read"], [("app", [])], [("f", "app", [
            ("either", [("back",)], [("loop", [("block", True, [])])]), ("check", "read"),
        ])])
        wrong = [("f", path) for path in [(0,), (0, 0, 0), (0, 1, 0), (0, 1, 0, 0), (2,), (1, 0), (-1,), (), (True,)]]
        for place in wrong + [("g", (1,)), ["f", (1,)], ("f", [1]), ("f", (1,), 0)]:
            self.refuses(InvalidPlace, place, held, program, place)
            self.refuses(InvalidPlace, place, run_to, program, place, [])
        self.assertEqual(held(program, ("f", (1,))), [[]])


class TestRunTo(Case):
    def test_a_shortest_run(self):
        run = [("call", ("main", (0,))), ("check", ("save", (0, 0)))]
        self.assertEqual(run_to(store(), ("save", (0, 0)), ["read", "write"]), run)
        self.assertEqual(run_to(program=store(), place=("save", (0, 0)), standing=["read", "write"]), run)
        self.assertIsNone(run_to(store(), ("save", (0, 0)), ["read"]))

    def test_with_another_standing_another_run(self):
        body = [("either", [("call", "g")], [("block", True, [("call", "g")])])]
        program = two_functions(body, [("either", [("call", "f")], [("check", "write")])], ["write"], ["read"])
        place = ("f", (0, 0, 0))
        self.assertEqual(run_to(program, place, ["write"]), [("call", place)])
        self.assertEqual(size(run_to(program, place, [])), 3)
        self.assertIsNone(run_to(program, place, ["read"]))

    def test_a_fail_is_an_event_too(self):
        program = one_function([("check", "write")])
        self.assertEqual(run_to(program, ("f", (0,)), ["read"]), [("fail", ("f", (0,)))])

    def test_a_frame_has_to_end_first(self):
        program = two_functions([("call", "g"), ("check", "read")], [("check", "read"), ("call", "f"), ("back",)])
        self.assertIsNone(run_to(program, ("f", (1,)), ["read"]))
        program = two_functions([("call", "g"), ("tail", "g")], [("check", "read"), ("either", [("call", "f")], [])])
        run = [("call", ("f", (0,))), ("check", ("g", (0,))), ("end", "g"), ("tail", ("f", (1,)))]
        self.assertEqual(run_to(program, ("f", (1,)), ["read"]), run)

    def test_a_frame_that_ends_as_the_one_that_took_its_place(self):
        program = two_functions([("call", "g"), ("check", "read")], [("either", [("tail", "f")], [])])
        run = [("call", ("f", (0,))), ("end", "g"), ("check", ("f", (1,)))]
        self.assertEqual(run_to(program, ("f", (1,)), ["read"]), run)
        third = trio([("call", "b"), ("check", "read")], [("tail", "c")], [("back",)])
        run = [("call", ("a", (0,))), ("tail", ("b", (0,))), ("end", "c"), ("check", ("a", (1,)))]
        self.assertEqual(run_to(third, ("a", (1,)), ["read"]), run)

    def test_the_shorter_of_two_ways(self):
        body = [("either", [("call", "g"), ("call", "g")], [("check", "read"), ("check", "read"), ("check", "read")])]
        program = two_functions(body + [("check", "read")], [])
        self.assertEqual(size(run_to(program, ("f", (1,)), ["read"])), 4)
        program = two_functions(body + [("check", "read")], [("check", "read")])
        self.assertEqual(size(run_to(program, ("f", (1,)), ["read"])), 4)
        program = two_functions([("either", [("call", "g")], [("check", "read")]), ("check", "read")], [])
        self.assertEqual(size(run_to(program, ("f", (1,)), ["read"])), 2)

    def test_the_end_of_a_frame_counts_once(self):
        for checks in range(3, 7):
            body = [("either", [("call", "g"), ("call", "g")], [("check", "read")] * checks), ("check", "read")]
            program = two_functions(body, [])
            run = run_to(program, ("f", (1,)), ["read"])
            self.assertEqual(len(run), min(4, checks) + 1)
            program = two_functions([("either", [("call", "g")] * 3, [("check", "read")] * checks), body[1]], [])
            self.assertEqual(size(run_to(program, ("f", (1,)), ["read"])), min(6, checks) + 1)

    def test_many_events_to_end(self):
        functions = [("a", "x", [("call", "b")] * 13 + [("check", "read")]), ("b", "x", [("call", "c")] * 14),
                     ("c", "x", [("call", "d")] * 7), ("d", "x", [])]
        program = Program(["read"], [("x", ["read"])], functions)
        run = run_to(program, ("a", (13,)), ["read"])
        self.assertEqual(len(run), 13 * (2 + 14 * (2 + 7 * 2)) + 1)
        self.assertEqual(run[-1], ("check", ("a", (13,))))
        self.assertTrue(is_run(program, run))

    def test_recursion_on_the_way(self):
        rights = ["a", "b", "c", "d", "e"]
        functions = [("f", "x", [("call", "g"), ("either", [("check", "a")], [])])]
        functions += [("g", "y", [("either", [("call", "f")], [("check", "e")])])]
        program = Program(rights, [("x", rights), ("y", ["e", "a"])], functions)
        self.assertEqual(size(run_to(program, ("f", (1, 0, 0)), ["a", "e"])), 6)
        self.assertEqual(size(run_to(program, ("f", (1, 0, 0)), rights)), 4)

    def test_none_for_a_place_that_is_never_reached(self):
        program = two_functions([("check", "write"), ("call", "g")], [("check", "read")])
        for standing in choices(["read", "write"]):
            self.assertIsNone(run_to(program, ("g", (0,)), standing))
            self.assertIsNone(run_to(program, ("f", (1,)), standing))

    def test_refused_standings(self):
        place = ("save", (0, 0))
        wrong = [["write", "read"], ["read", "read"], ["read", "other"], ("read",), "read", ["read", None], [["read"]]]
        for standing in wrong + [value for value in odd_values() if repr(value) not in ("[]",)]:
            self.refuses(InvalidList, standing, run_to, store(), place, standing)
        for standing in choices(["read", "write"]):
            run_to(store(), place, standing)


class TestCanEnd(Case):
    def test_plain_frames(self):
        self.assertIs(can_end(store(), "main", ["read", "write"]), True)
        self.assertIs(can_end(program=store(), name="save", handed=[]), True)
        self.assertIs(can_end(one_function([]), "f", []), True)

    def test_endless_recursion(self):
        program = two_functions([("call", "g")], [("call", "f")])
        self.assertIs(can_end(program, "f", ["read", "write"]), False)
        self.assertIs(can_end(program, "g", []), False)
        self.assertIs(can_end(one_function([("tail", "f")]), "f", ["read"]), False)
        self.assertIs(can_end(one_function([("either", [("call", "f")], [("tail", "f")])]), "f", ["read"]), False)
        self.assertIs(can_end(one_function([("either", [("call", "f")], [])]), "f", ["read"]), True)
        self.assertIs(can_end(one_function([("call", "f"), ("either", [], [])]), "f", ["read"]), False)

    def test_a_check_on_every_way(self):
        body = [("either", [("check", "read")], [("check", "write")])]
        program = one_function(body, owned=("read", "write"))
        for handed in choices(["read", "write"]):
            self.assertIs(can_end(program, "f", handed), handed != [])
        self.assertIs(can_end(one_function(body, owned=()), "f", ["read", "write"]), False)
        twice = one_function([("check", "read"), ("check", "write")], owned=("read", "write"))
        for handed in choices(["read", "write"]):
            self.assertIs(can_end(twice, "f", handed), len(handed) == 2)

    def test_a_marked_block_needs_only_the_owners_right(self):
        program = two_functions([("block", True, [("check", "read")])], [("block", True, [("call", "f")])])
        self.assertIs(can_end(program, "f", []), True)
        self.assertIs(can_end(program, "g", []), True)
        program = two_functions([("check", "read")], [("block", True, [("call", "f")])])
        self.assertIs(can_end(program, "f", []), False)
        self.assertIs(can_end(program, "g", []), True)

    def test_a_loop_need_not_be_taken(self):
        program = one_function([("loop", [("call", "f"), ("check", "write")])])
        self.assertIs(can_end(program, "f", []), True)
        program = one_function([("loop", [("check", "write")]), ("check", "read")])
        self.assertIs(can_end(program, "f", []), False)
        self.assertIs(can_end(program, "f", ["read"]), True)

    def test_tail_calls(self):
        program = trio([("tail", "b"), ("call", "a")], [("tail", "c")], [("check", "read")])
        self.assertIs(can_end(program, "a", ["read"]), True)
        self.assertIs(can_end(program, "b", ["read"]), True)
        self.assertIs(can_end(program, "b", []), False)
        by_call = trio([("tail", "b")], [("call", "c")], [("check", "read")])
        self.assertIs(can_end(by_call, "b", ["read"]), False)

    def test_handed_what_no_run_hands(self):
        program = two_functions([("call", "g")], [("check", "write")])
        self.assertIs(can_end(program, "g", ["write"]), True)
        self.assertIs(can_end(program, "g", ["read"]), False)
        alone = two_functions([], [("check", "write")])
        self.assertIs(can_end(alone, "g", ["read", "write"]), True)

    def test_refusals(self):
        names = [value for value in odd_values()] + [("main",), ["main"], "Main", "app"]
        for name in names:
            self.refuses(UnknownName, name, can_end, store(), name, [])
            self.refuses(UnknownName, name, can_end, store(), name, None)
        for handed in [["write", "read"], ["read", "read"], ["x"], (), None, {}, "read"]:
            self.refuses(InvalidList, handed, can_end, store(), "main", handed)
        for program in [None, [], "main"]:
            self.refuses(InvalidProgram, program, can_end, program, None, None)


class TestAgainstOtherWays(Case):
    """Programs of every kind, beside runs by brute force and beside another way to count events."""

    def compare(self, program, depth):
        explored = Explored(program, depth)
        fixpoint = Fixpoint(Rights(program))
        for word in EVENT_STEPS:
            for place in places(program, word):
                found = [key[2] for key in fixpoint.happens if key[1] == place]
                told = [[right for right in program.rights() if right in standing] for standing in found]
                self.assertEqual(held(program, place), sorted(told))
                for standing in choices(program.rights()):
                    self.compare_run(program, place, standing, explored, fixpoint)

    def compare_run(self, program, place, standing, explored, fixpoint):
        reference = explored.reference
        run = run_to(program, place, standing)
        counted = fixpoint.shortest(lambda word, where, found, target: (where, found) == (place, frozenset(standing)))
        self.assertEqual(size(run), counted)

        def wanted(told, stack, _):
            return told[-1][1] == place and reference.standing(stack, place[1]) == standing

        self.beside_brute(run, explored.shortest(wanted), explored.depth)
        if run is not None:
            self.assertTrue(is_run(program, run))
            self.assertTrue(wanted(run, reference.stack_ahead(run), None))

    def test_random_programs(self):
        for seed in range(200):
            self.compare(random_program(seed), 7)

    def test_dense_programs(self):
        for seed in range(100):
            self.compare(dense_program(seed), 6)

    def test_open_programs(self):
        for seed in range(120):
            self.compare(open_program(seed), 5)

    def test_frames_that_can_end(self):
        for seed in range(60):
            program = dense_program(5000 + seed, rights=2, functions=3)
            for name, _, _ in program.functions():
                for handed in choices(program.rights()):
                    start = (name, frozenset(handed))
                    ends = Fixpoint(Rights(program), start).ends[start] < NEVER
                    self.assertIs(can_end(program, name, handed), ends)

    def test_a_standing_is_what_the_walk_finds(self):
        for seed in range(40):
            program = some_program(seed)
            for place in places(program, "call"):
                for standing in held(program, place):
                    run = run_to(program, place, standing)
                    self.assertEqual(run[-1], ("call", place))
                    self.assertEqual(stack_of(program, run[:-1])[-1], place[0])


if __name__ == "__main__":
    unittest.main()
