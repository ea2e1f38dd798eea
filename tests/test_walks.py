"""Promise [17], and [2] and [3] for it."""

import unittest

from callersrights.errors import InvalidRun
from callersrights.programs import Program
from callersrights.runs import is_run, next_events, walk_of
from samples import one_function, store, two_functions


def chain(first, second, third, rights=(["read"], ["read"], ["read"])):
    """A program of the functions a, b, c with an owner each."""
    owners = list(zip("xyz", rights))
    functions = [("a", "x", first), ("b", "y", second), ("c", "z", third)]
    return Program(["read", "write"], owners, functions)


class TestWalks(unittest.TestCase):
    def test_the_documents_example(self):
        run = [("call", ("main", (0,))), ("check", ("save", (0, 0)))]
        self.assertEqual(walk_of(store(), run), ["save"])
        self.assertEqual(walk_of(store(), run + [("fail", ("save", (1, 0, 0)))]), ["save", "main"])
        self.assertEqual(walk_of(program=store(), run=run), ["save"])

    def test_down_to_the_oldest(self):
        program = chain([("call", "b")], [("call", "c")], [("check", "read")])
        run = [("call", ("a", (0,))), ("call", ("b", (0,))), ("check", ("c", (0,)))]
        self.assertEqual(walk_of(program, run), ["c", "b", "a"])

    def test_a_check_in_a_marked_block_meets_the_newest_alone(self):
        program = chain([("call", "b")], [("call", "c")], [("block", True, [("loop", [("check", "read")])])])
        run = [("call", ("a", (0,))), ("call", ("b", (0,))), ("check", ("c", (0, 0, 0)))]
        self.assertEqual(walk_of(program, run), ["c"])

    def test_a_frame_that_is_marked_because_of_where_its_call_stands(self):
        program = chain([("call", "b")], [("block", True, [("call", "c")])], [("check", "read")])
        run = [("call", ("a", (0,))), ("call", ("b", (0, 0))), ("check", ("c", (0,)))]
        self.assertEqual(walk_of(program, run), ["c", "b"])

    def test_the_mark_is_left_with_the_block(self):
        second = [("block", True, [("check", "read"), ("call", "c")]), ("check", "read"), ("call", "c")]
        program = chain([("call", "b")], second, [("check", "read")])
        run = [("call", ("a", (0,))), ("check", ("b", (0, 0)))]
        self.assertEqual(walk_of(program, run), ["b"])
        run += [("call", ("b", (0, 1))), ("check", ("c", (0,)))]
        self.assertEqual(walk_of(program, run), ["c", "b"])
        run += [("end", "c"), ("check", ("b", (1,)))]
        self.assertEqual(walk_of(program, run), ["b", "a"])
        run += [("call", ("b", (2,))), ("check", ("c", (0,)))]
        self.assertEqual(walk_of(program, run), ["c", "b", "a"])

    def test_a_block_that_is_not_marked_marks_nothing(self):
        third = [("block", False, [("check", "read")]), ("block", True, []), ("check", "read")]
        program = chain([("call", "b")], [("block", False, [("call", "c")])], third)
        run = [("call", ("a", (0,))), ("call", ("b", (0, 0))), ("check", ("c", (0, 0)))]
        self.assertEqual(walk_of(program, run), ["c", "b", "a"])
        self.assertEqual(walk_of(program, run + [("check", ("c", (2,)))]), ["c", "b", "a"])

    def test_blocks_within_marked_blocks(self):
        third = [("block", True, [("block", False, [("either", [("check", "read")], [])])])]
        program = chain([("call", "b")], [("call", "c")], third)
        run = [("call", ("a", (0,))), ("call", ("b", (0,))), ("check", ("c", (0, 0, 0, 0, 0)))]
        self.assertEqual(walk_of(program, run), ["c"])
        third = [("block", False, [("block", True, [("check", "read")]), ("check", "read")])]
        program = chain([("call", "b")], [("call", "c")], third)
        run = [("call", ("a", (0,))), ("call", ("b", (0,))), ("check", ("c", (0, 0, 0)))]
        self.assertEqual(walk_of(program, run), ["c"])
        self.assertEqual(walk_of(program, run + [("check", ("c", (0, 1)))]), ["c", "b", "a"])

    def test_the_nearest_marked_frame_stops_the_walk(self):
        marked = [("block", True, [("call", "b")])]
        program = chain(marked, [("block", True, [("call", "c")])], [("check", "read")])
        run = [("call", ("a", (0, 0))), ("call", ("b", (0, 0))), ("check", ("c", (0,)))]
        self.assertEqual(walk_of(program, run), ["c", "b"])
        program = chain(marked, [("call", "c")], [("check", "read")])
        run = [("call", ("a", (0, 0))), ("call", ("b", (0,))), ("check", ("c", (0,)))]
        self.assertEqual(walk_of(program, run), ["c", "b", "a"])

    def test_tail_calls(self):
        program = chain([("call", "b")], [("tail", "c")], [("check", "read")])
        run = [("call", ("a", (0,))), ("tail", ("b", (0,))), ("check", ("c", (0,)))]
        self.assertEqual(walk_of(program, run), ["c", "a"])
        program = chain([("block", True, [("call", "b")])], [("tail", "c")], [("check", "read")])
        run = [("call", ("a", (0, 0))), ("tail", ("b", (0,))), ("check", ("c", (0,)))]
        self.assertEqual(walk_of(program, run), ["c", "a"])
        program = chain([("tail", "b")], [("tail", "c")], [("check", "read")])
        run = [("tail", ("a", (0,))), ("tail", ("b", (0,))), ("check", ("c", (0,)))]
        self.assertEqual(walk_of(program, run), ["c"])

    def test_recursion(self):
        program = one_function([
            ("either", [("block", True, [("call", "f")])], [("either", [("call", "f")], [("check", "read")])]),
        ])
        marked, plain = ("call", ("f", (0, 0, 0, 0))), ("call", ("f", (0, 1, 0, 0, 0)))
        check = ("check", ("f", (0, 1, 0, 1, 0)))
        self.assertEqual(walk_of(program, [plain, plain, marked, plain, check]), ["f"] * 3)
        self.assertEqual(walk_of(program, [plain, plain, plain, check]), ["f"] * 4)
        self.assertEqual(walk_of(program, [plain, plain, marked, check]), ["f"] * 2)


class TestOutcomes(unittest.TestCase):
    def outcome(self, program, *run):
        (event,) = next_events(program, list(run))
        self.assertTrue(is_run(program, list(run) + [event]))
        other = ("fail" if event[0] == "check" else "check", event[1])
        self.assertFalse(is_run(program, list(run) + [other]))
        return event[0], walk_of(program, list(run) + [event])

    def test_each_frame_that_is_met_needs_the_right(self):
        run = [("call", ("a", (0,))), ("call", ("b", (0,)))]
        for lacking in (0, 1, 2):
            rights = [["write"], ["write"], ["write"]]
            program = chain([("call", "b")], [("call", "c")], [("check", "write")], rights)
            self.assertEqual(self.outcome(program, *run), ("check", ["c", "b", "a"]))
            rights[lacking] = ["read"]
            program = chain([("call", "b")], [("call", "c")], [("check", "write")], rights)
            self.assertEqual(self.outcome(program, *run), ("fail", ["c", "b", "a"]))

    def test_frames_below_a_marked_one_need_nothing(self):
        run = [("call", ("a", (0,))), ("call", ("b", (0, 0)))]
        second = [("block", True, [("call", "c")])]
        for rights, word in [([[], ["read"], ["read"]], "check"), ([["read"], [], ["read"]], "fail"),
                             ([["read"], ["read"], []], "fail")]:
            program = chain([("call", "b")], second, [("check", "read")], rights)
            self.assertEqual(self.outcome(program, *run), (word, ["c", "b"]))

    def test_the_newest_frame_marked(self):
        run = [("call", ("a", (0,))), ("call", ("b", (0,)))]
        third = [("block", True, [("check", "read")])]
        for rights, word in [([[], [], ["read"]], "check"), ([["read"], ["read"], []], "fail")]:
            program = chain([("call", "b")], [("call", "c")], third, rights)
            self.assertEqual(self.outcome(program, *run), (word, ["c"]))

    def test_a_tail_call_makes_the_walk_forget(self):
        run = [("call", ("a", (0,))), ("tail", ("b", (0,)))]
        for rights, word in [([["read"], [], ["read"]], "check"), ([[], ["read"], ["read"]], "fail")]:
            program = chain([("call", "b")], [("tail", "c")], [("check", "read")], rights)
            self.assertEqual(self.outcome(program, *run), (word, ["c", "a"]))

    def test_the_right_that_is_checked_counts(self):
        program = two_functions([("call", "g")], [("either", [("check", "read")], [("check", "write")])])
        run = [("call", ("f", (0,)))]
        self.assertEqual(next_events(program, run), [("check", ("g", (0, 0, 0))), ("fail", ("g", (0, 1, 0)))])

    def test_a_standing_below_does_not_come_back(self):
        # The middle frame lacks the right, so what it calls lacks it too, though the oldest has it.
        first, second = [("call", "b"), ("check", "write")], [("call", "c")]
        program = chain(first, second, [("either", [("check", "write")], [])], [["write"], [], ["write"]])
        run = [("call", ("a", (0,))), ("call", ("b", (0,)))]
        self.assertEqual(next_events(program, run), [("end", "c"), ("fail", ("c", (0, 0, 0)))])
        self.assertEqual(self.outcome(program, *run, ("end", "c"), ("end", "b")), ("check", ["a"]))


class TestRefusals(unittest.TestCase):
    def test_only_behind_check_and_fail(self):
        body = [("call", "g"), ("check", "read"), ("tail", "g")]
        program = two_functions(body, [])
        run = [("call", ("f", (0,))), ("end", "g"), ("check", ("f", (1,))), ("tail", ("f", (2,))), ("end", "g")]
        for size in range(len(run) + 1):
            part = run[:size]
            if size == 3:
                self.assertEqual(walk_of(program, part), ["f"])
                continue
            self.assertTrue(is_run(program, part))
            with self.assertRaises(InvalidRun) as caught:
                walk_of(program, part)
            self.assertIs(caught.exception.value, part)

    def test_a_check_that_cannot_come(self):
        for run in [[("check", ("main", (1, 0)))], [("fail", ("main", (1, 0)))], [("call", ("main", (0,))), None]]:
            with self.assertRaises(InvalidRun) as caught:
                walk_of(store(), run)
            self.assertIs(caught.exception.value, run)


if __name__ == "__main__":
    unittest.main()
