"""Promise [25]."""

import unittest

from callersrights.checks import first_fail, last_end, outcome
from callersrights.errors import InvalidPlace, InvalidProgram
from callersrights.programs import Program, places
from callersrights.runs import is_run, next_events, stack_of
from fixpoint import NEVER, Fixpoint, Rights
from reference import Explored
from samples import Case, dense_program, odd_values, one_function, open_program, random_program, size, some_program
from samples import store, two_functions


def ladder(widths, last, behind):
    """A program whose first function calls functions that call others, so many times, and does something behind."""
    names = ["a", "b", "c", "d", "e", "f"]
    functions = []
    for at, width in enumerate(widths):
        functions.append((names[at], "x", [("loop", [])] + [("call", names[at + 1])] * width))
    functions.append((names[len(widths)], "x", last))
    functions[0] = (names[0], "x", functions[0][2] + behind)
    return Program(["read", "write"], [("x", ["read"])], functions)


class TestOutcome(Case):
    def test_the_documents_example(self):
        self.assertEqual(outcome(store(), ("save", (0, 0))), "passes")
        self.assertEqual(outcome(store(), ("save", (1, 0, 0))), "fails")
        self.assertEqual(outcome(program=store(), place=("main", (1, 0))), "passes")

    def test_never(self):
        program = one_function([("check", "write"), ("check", "read")])
        self.assertEqual(outcome(program, ("f", (1,))), "never")
        self.assertEqual(outcome(two_functions([], [("check", "read")]), ("g", (0,))), "never")
        self.assertEqual(outcome(one_function([("call", "f"), ("check", "read")]), ("f", (1,))), "never")

    def test_both(self):
        body = [("either", [("call", "g")], [("block", True, [("call", "f")])])]
        program = two_functions(body, [("block", False, [("check", "write")])], ["write"], ["write"])
        self.assertEqual(outcome(program, ("g", (0, 0))), "passes")
        functions = [("a", "x", [("either", [("call", "b")], [("call", "c")])]), ("b", "y", [("call", "c")]),
                     ("c", "x", [("check", "read")])]
        program = Program(["read"], [("x", ["read"]), ("y", [])], functions)
        self.assertEqual(outcome(program, ("c", (0,))), "both")
        functions[1] = ("b", "y", [("tail", "c")])
        self.assertEqual(outcome(Program(["read"], [("x", ["read"]), ("y", [])], functions), ("c", (0,))), "passes")
        functions[0] = ("a", "x", [("call", "b")])
        functions[1] = ("b", "y", [("call", "c")])
        self.assertEqual(outcome(Program(["read"], [("x", ["read"]), ("y", [])], functions), ("c", (0,))), "fails")

    def test_both_in_one_run(self):
        functions = [("a", "x", [("call", "c"), ("call", "b")]), ("b", "y", [("call", "c")]),
                     ("c", "x", [("check", "read")])]
        program = Program(["read"], [("x", ["read"]), ("y", [])], functions)
        self.assertEqual(outcome(program, ("c", (0,))), "both")

    def test_marked_blocks(self):
        program = two_functions([("call", "g")], [("block", True, [("check", "write")]), ("check", "write")])
        self.assertEqual(outcome(program, ("g", (0, 0))), "passes")
        self.assertEqual(outcome(program, ("g", (1,))), "fails")

    def test_refused_places(self):
        program = two_functions([("call", "g"), ("either", [], [("check", "read")])], [("tail", "f"), ("back",)])
        wrong = [("f", (0,)), ("f", (1,)), ("g", (0,)), ("g", (1,)), ("f", (1, 0, 0)), ("f", (1, 1)), ("f", (1, 1, 1))]
        for place in wrong + odd_values() + [["f", (1, 1, 0)], ("f", [1, 1, 0]), ("f", (True, 1, 0))]:
            self.refuses(InvalidPlace, place, outcome, program, place)
        self.assertEqual(outcome(program, ("f", (1, 1, 0))), "never")
        for value in odd_values():
            if not isinstance(value, Program):
                self.refuses(InvalidProgram, value, outcome, value, None)


class TestFirstFail(Case):
    def test_the_documents_example(self):
        run = [("call", ("main", (0,))), ("check", ("save", (0, 0))), ("fail", ("save", (1, 0, 0)))]
        self.assertEqual(first_fail(store()), run)
        self.assertEqual(first_fail(program=store()), run)

    def test_none(self):
        self.assertIsNone(first_fail(one_function([])))
        self.assertIsNone(first_fail(one_function([("check", "read"), ("call", "f")])))
        self.assertIsNone(first_fail(two_functions([("call", "g"), ("check", "write")], [("call", "g")])))
        self.assertIsNone(first_fail(two_functions([], [("check", "write")], [], [])))

    def test_the_nearest_of_some(self):
        body = [("either", [("check", "read"), ("check", "write")], [("call", "g")]), ("check", "write")]
        program = two_functions(body, [("check", "read"), ("check", "write")])
        self.assertEqual(first_fail(program), [("check", ("f", (0, 0, 0))), ("fail", ("f", (0, 0, 1)))])

    def test_far_less_events_than_the_end_of_a_frame_takes(self):
        program = ladder([12] * 5, [], [("check", "write")])
        body = program.functions()[0][2]
        functions = program.functions()
        functions[0] = ("a", "x", [("either", body, [("call", "f"), ("call", "f"), ("check", "write")])])
        program = Program(program.rights(), program.owners(), functions)
        self.assertEqual(size(first_fail(program)), 5)
        functions[0] = ("a", "x", body)
        functions[5] = ("f", "x", [("loop", [("check", "write")])])
        program = Program(program.rights(), program.owners(), functions)
        self.assertEqual([event[0] for event in first_fail(program)], ["call"] * 5 + ["fail"])

    def test_many_events(self):
        program = ladder([13, 13, 7], [], [("check", "write")])
        run = first_fail(program)
        self.assertEqual(len(run), 13 * (2 + 13 * (2 + 7 * 2)) + 1)
        self.assertTrue(is_run(program, run))

    def test_refused_programs(self):
        for value in odd_values():
            if not isinstance(value, Program):
                self.refuses(InvalidProgram, value, first_fail, value)
                self.refuses(InvalidProgram, value, last_end, value)


class TestLastEnd(Case):
    def test_the_documents_example(self):
        run = last_end(store())
        self.assertEqual(run, [("call", ("main", (0,))), ("check", ("save", (0, 0))), ("end", "save"), ("end", "main")])
        self.assertEqual(last_end(program=store()), run)

    def test_none(self):
        self.assertIsNone(last_end(one_function([("call", "f")])))
        self.assertIsNone(last_end(one_function([("tail", "f")])))
        self.assertIsNone(last_end(one_function([("check", "write")])))
        self.assertIsNone(last_end(two_functions([("call", "g")], [("call", "f")])))

    def test_short_ones(self):
        self.assertEqual(last_end(one_function([("loop", [("check", "read")])])), [("end", "f")])
        self.assertEqual(last_end(one_function([("check", "read")])), [("check", ("f", (0,))), ("end", "f")])
        program = two_functions([("tail", "g")], [("either", [("call", "f")], [])])
        self.assertEqual(last_end(program), [("tail", ("f", (0,))), ("end", "g")])

    def test_the_shorter_of_a_tail_call_and_an_end(self):
        program = two_functions([("either", [("tail", "g")], [("check", "read"), ("check", "read")])], [])
        self.assertEqual(last_end(program), [("tail", ("f", (0, 0, 0))), ("end", "g")])
        program = two_functions([("either", [("tail", "g")], [("check", "read")])], [("check", "read")])
        self.assertEqual(last_end(program), [("check", ("f", (0, 1, 0))), ("end", "f")])

    def test_recursion_down_to_a_standing_that_lets_it_end(self):
        body = [("either", [("check", "read")], [("block", True, [("call", "g")])])]
        program = two_functions(body, [("either", [("call", "f"), ("check", "write")], [])], [], ["write"])
        self.assertEqual(size(last_end(program)), 3)

    def test_many_events(self):
        program = ladder([13, 13, 7], [], [])
        run = last_end(program)
        self.assertEqual(len(run), 13 * (2 + 13 * (2 + 7 * 2)) + 1)
        self.assertTrue(is_run(program, run))
        self.assertEqual(stack_of(program, run), [])
        with_check = ladder([13, 13, 7], [], [("check", "write")])
        self.assertIsNone(last_end(with_check))

    def test_a_short_end_beside_a_far_one(self):
        program = ladder([13] * 5, [], [])
        functions = program.functions()
        functions[0] = ("a", "x", [("either", [("call", "b")], [("call", "e")])])
        program = Program(program.rights(), program.owners(), functions)
        self.assertEqual(len(last_end(program)), 3 + 13 * 2)


class TestAgainstOtherWays(Case):
    def compare(self, program, depth):
        explored = Explored(program, depth)
        fixpoint = Fixpoint(Rights(program))
        self.compare_run(program, first_fail(program), explored,
                         fixpoint.shortest(lambda word, place, found, right: word == "check" and right not in found),
                         explored.shortest(lambda run, stack, _: run[-1][0] == "fail"))
        ends = fixpoint.ends[fixpoint.reference.first, fixpoint.handing.first]
        self.compare_run(program, last_end(program), explored, None if ends == NEVER else ends, explored.ends())
        for place in places(program, "check"):
            found = {right in key[2] for key in fixpoint.happens for right in [key[3]] if key[1] == place}
            words = {(): "never", (True,): "passes", (False,): "fails", (False, True): "both"}
            self.assertEqual(outcome(program, place), words[tuple(sorted(found))])

    def compare_run(self, program, run, explored, counted, brute):
        self.assertEqual(size(run), counted)
        self.beside_brute(run, brute, explored.depth)
        if run is not None:
            self.assertTrue(is_run(program, run))
            self.assertEqual(next_events(program, run), [])

    def test_random_programs(self):
        for seed in range(300):
            self.compare(random_program(10000 + seed), 8)

    def test_dense_programs(self):
        for seed in range(200):
            self.compare(dense_program(10000 + seed), 7)

    def test_open_programs(self):
        for seed in range(200):
            self.compare(open_program(10000 + seed), 6)

    def test_what_they_end_with(self):
        for seed in range(200):
            program = some_program(seed)
            run = first_fail(program)
            if run is not None:
                self.assertEqual(run[-1][0], "fail")
                self.assertIn(outcome(program, run[-1][1]), ("fails", "both"))
            run = last_end(program)
            if run is not None:
                self.assertEqual(stack_of(program, run), [])


if __name__ == "__main__":
    unittest.main()
