"""Promises [15] and [16], and [2] and [3] for them."""

import random
import unittest

from callersrights.errors import InvalidProgram, InvalidRun
from callersrights.programs import Program
from callersrights.runs import is_run, next_events, stack_of, walk_of
from reference import Reference
from samples import STORE_FUNCTIONS, deep_list, lists_in, odd_values, one_function, random_program, spoil, store
from samples import two_functions

ODD_EVENTS = [
    ("call",), ("call", ("main", (0,)), 1), ["call", ("main", (0,))], ("call", ["main", (0,)]), ("call", ("main", [0])),
    ("call", ("main", (False,))), ("call", ("main", 0)), ("call", "main"), ("call", ("main",)), ("call", None),
    ("call", ("main", ())), ("call", ("main", (1,))), ("call", ("main", (-2,))), ("call", ("main", (0, 0))),
    ("call", ("save", (0,))), ("call", (("main",), (0,))), ("call", ("main", ("0",))), ("call", ("main", (None,))),
    ("Call", ("main", (0,))), (None, ("main", (0,))), ("tail", ("main", (0,))), ("check", ("main", (0,))),
    ("fail", ("main", (0,))), ("end", ("main", (0,))), ("end", ("main",)), ("end", "save"), ("end", None),
    ("end", ["main"]), ("end",), ("end", "main", 0), ("end", True), ("back", ("main", (0,))), ("call", {}),
    ("loop", ("main", (1,))), ("check", ("main", (1, False))), ("call", ("main", (10 ** 30,))), (), "call", None, True,
]


def go(program, *events):
    """What comes next and the stack behind events."""
    return next_events(program, list(events)), stack_of(program, list(events))


class TestEvents(unittest.TestCase):
    def test_the_documents_example(self):
        run = [("call", ("main", (0,))), ("check", ("save", (0, 0)))]
        self.assertEqual(stack_of(store(), run), ["main", "save"])
        self.assertEqual(next_events(store(), run), [("end", "save"), ("fail", ("save", (1, 0, 0)))])

    def test_by_name(self):
        run = [("call", ("main", (0,)))]
        self.assertIs(is_run(program=store(), value=run), True)
        self.assertEqual(next_events(program=store(), run=run), [("check", ("save", (0, 0)))])
        self.assertEqual(stack_of(program=store(), run=run), ["main", "save"])

    def test_no_event_yet(self):
        self.assertIs(is_run(store(), []), True)
        self.assertEqual(go(store()), ([("call", ("main", (0,)))], ["main"]))

    def test_call_and_what_is_behind_it(self):
        program = two_functions([("call", "g"), ("check", "read")], [])
        self.assertEqual(go(program), ([("call", ("f", (0,)))], ["f"]))
        self.assertEqual(go(program, ("call", ("f", (0,)))), ([("end", "g")], ["f", "g"]))
        run = [("call", ("f", (0,))), ("end", "g")]
        self.assertEqual(go(program, *run), ([("check", ("f", (1,)))], ["f"]))
        run.append(("check", ("f", (1,))))
        self.assertEqual(go(program, *run), ([("end", "f")], ["f"]))
        run.append(("end", "f"))
        self.assertEqual(go(program, *run), ([], []))

    def test_tail_takes_the_place(self):
        program = two_functions([("call", "g"), ("back",)], [("either", [("tail", "f")], [("tail", "g")])])
        run = [("call", ("f", (0,)))]
        self.assertEqual(go(program, *run), ([("tail", ("g", (0, 0, 0))), ("tail", ("g", (0, 1, 0)))], ["f", "g"]))
        again = run + [("tail", ("g", (0, 1, 0)))] * 3
        self.assertEqual(stack_of(program, again), ["f", "g"])
        run.append(("tail", ("g", (0, 0, 0))))
        self.assertEqual(go(program, *run), ([("call", ("f", (0,)))], ["f", "f"]))
        first = two_functions([("tail", "g"), ("check", "read")], [])
        self.assertEqual(go(first, ("tail", ("f", (0,)))), ([("end", "g")], ["g"]))
        self.assertEqual(go(first, ("tail", ("f", (0,))), ("end", "g")), ([], []))

    def test_check_or_fail(self):
        program = one_function([("check", "read"), ("check", "write"), ("check", "read")])
        self.assertEqual(go(program), ([("check", ("f", (0,)))], ["f"]))
        self.assertEqual(go(program, ("check", ("f", (0,)))), ([("fail", ("f", (1,)))], ["f"]))
        run = [("check", ("f", (0,))), ("fail", ("f", (1,)))]
        self.assertEqual(go(program, *run), ([], ["f"]))
        self.assertFalse(is_run(program, [("fail", ("f", (0,)))]))
        self.assertFalse(is_run(program, [("check", ("f", (0,))), ("check", ("f", (1,)))]))

    def test_nothing_behind_a_fail(self):
        program = one_function([("loop", [("check", "write")])])
        run = [("fail", ("f", (0, 0)))]
        self.assertTrue(is_run(program, run))
        for event in [("fail", ("f", (0, 0))), ("check", ("f", (0, 0))), ("end", "f")]:
            self.assertFalse(is_run(program, run + [event]))
        deep = two_functions([("call", "g")], [("check", "read")])
        run = [("call", ("f", (0,))), ("check", ("g", (0,)))]
        self.assertTrue(is_run(deep, run))
        deep = two_functions([("call", "g")], [("check", "write")])
        run = [("call", ("f", (0,))), ("fail", ("g", (0,)))]
        self.assertEqual(go(deep, *run), ([], ["f", "g"]))
        self.assertFalse(is_run(deep, run + [("end", "g")]))

    def test_nothing_behind_the_last_end(self):
        program = one_function([("loop", [("check", "read")])])
        run = [("end", "f")]
        self.assertEqual(go(program, *run), ([], []))
        for event in [("end", "f"), ("check", ("f", (0, 0)))]:
            self.assertFalse(is_run(program, run + [event]))
        twice = two_functions([("call", "g")], [])
        run = [("call", ("f", (0,))), ("end", "g"), ("end", "f")]
        self.assertTrue(is_run(twice, run))
        self.assertFalse(is_run(twice, run + [("end", "f")]))

    def test_an_end_stops_only_its_own_frame(self):
        program = two_functions([("call", "g"), ("call", "g")], [])
        run = [("call", ("f", (0,))), ("end", "g"), ("call", ("f", (1,))), ("end", "g")]
        self.assertEqual(go(program, *run), ([("end", "f")], ["f"]))
        self.assertFalse(is_run(program, [("call", ("f", (0,))), ("end", "f")]))
        self.assertFalse(is_run(program, [("call", ("f", (0,))), ("end", "g"), ("end", "f")]))
        self.assertFalse(is_run(program, [("call", ("f", (0,))), ("call", ("f", (1,)))]))


class TestSilentSteps(unittest.TestCase):
    def test_empty_body(self):
        self.assertEqual(go(one_function([])), ([("end", "f")], ["f"]))
        self.assertEqual(go(one_function([]), ("end", "f")), ([], []))

    def test_back_is_passed_over(self):
        self.assertEqual(next_events(one_function([("back",), ("back",)]), []), [("end", "f")])
        program = one_function([("back",), ("check", "read"), ("back",), ("check", "read"), ("back",)])
        run = [("check", ("f", (1,)))]
        self.assertEqual(next_events(program, []), run)
        self.assertEqual(next_events(program, run), [("check", ("f", (3,)))])
        self.assertEqual(next_events(program, run + [("check", ("f", (3,)))]), [("end", "f")])

    def test_either(self):
        body = [("either", [("check", "read")], [("call", "f"), ("check", "read")]), ("tail", "f")]
        program = one_function(body)
        self.assertEqual(next_events(program, []), [("call", ("f", (0, 1, 0))), ("check", ("f", (0, 0, 0)))])
        self.assertEqual(next_events(program, [("check", ("f", (0, 0, 0)))]), [("tail", ("f", (1,)))])
        self.assertFalse(is_run(program, [("check", ("f", (0, 0, 0))), ("check", ("f", (0, 1, 1)))]))
        empty = one_function([("either", [], [("check", "read")]), ("check", "read")])
        self.assertEqual(next_events(empty, []), [("check", ("f", (0, 1, 0))), ("check", ("f", (1,)))])
        self.assertEqual(next_events(empty, [("check", ("f", (0, 1, 0)))]), [("check", ("f", (1,)))])

    def test_loop_none_once_and_many_times(self):
        program = one_function([("loop", [("check", "read"), ("check", "read")]), ("call", "f")])
        one, two, on = ("check", ("f", (0, 0))), ("check", ("f", (0, 1))), ("call", ("f", (1,)))
        self.assertEqual(next_events(program, []), [on, one])
        self.assertEqual(next_events(program, [one]), [two])
        self.assertEqual(next_events(program, [one, two]), [on, one])
        for many in (0, 1, 2, 149):
            self.assertTrue(is_run(program, [one, two] * many + [on]))
            self.assertFalse(is_run(program, [one, two] * many + [one, on]))
        self.assertFalse(is_run(program, [one, one]))

    def test_loops_whose_bodies_do_nothing(self):
        for body in [[], [("back",)], [("loop", [])], [("either", [], [])], [("block", True, [("loop", [])])]]:
            self.assertEqual(next_events(one_function([("loop", body)]), []), [("end", "f")])
            program = one_function([("loop", body), ("check", "read"), ("loop", body)])
            self.assertEqual(next_events(program, []), [("check", ("f", (1,)))])
            self.assertEqual(next_events(program, [("check", ("f", (1,)))]), [("end", "f")])

    def test_loops_in_loops(self):
        program = one_function([("loop", [("loop", [("check", "read")]), ("loop", [("call", "f")])])])
        check, call = ("check", ("f", (0, 0, 0))), ("call", ("f", (0, 1, 0)))
        for run in ([], [check], [check, check], [call, ("end", "f")], [call, ("end", "f"), check]):
            self.assertEqual(next_events(program, run), [call, check, ("end", "f")])
        strict = one_function([("loop", [("check", "read"), ("loop", [("loop", [("call", "f")])])])])
        check, call = ("check", ("f", (0, 0))), ("call", ("f", (0, 1, 0, 0)))
        self.assertEqual(next_events(strict, []), [check, ("end", "f")])
        self.assertEqual(next_events(strict, [check]), [call, check, ("end", "f")])
        self.assertEqual(next_events(strict, [check, call, ("end", "f")]), [call, check, ("end", "f")])

    def test_each_event_once_though_many_ways_lead_to_it(self):
        body = [("check", "read")]
        for _ in range(3):
            body = [("either", [("loop", body)], []), ("loop", [])]
        body = [("loop", [("loop", body)])]
        program = one_function(body)
        (check,) = [event for event in next_events(program, []) if event[0] == "check"]
        for run in ([], [check], [check, check]):
            self.assertEqual(next_events(program, run), [check, ("end", "f")])

    def test_blocks_are_passed_through(self):
        body = [("block", True, [("check", "read"), ("block", False, [])]), ("block", False, [("check", "read")])]
        program = one_function(body)
        one, two = ("check", ("f", (0, 0))), ("check", ("f", (1, 0)))
        self.assertEqual(next_events(program, []), [one])
        self.assertEqual(next_events(program, [one]), [two])
        self.assertEqual(next_events(program, [one, two]), [("end", "f")])

    def test_order_of_next_events(self):
        body = [("either", [("check", "write"), ("back",)], [("loop", [("tail", "g")]), ("check", "read")])]
        body += [("either", [("call", "g")], [])]
        program = two_functions([("loop", body)], [])
        self.assertEqual(next_events(program, []), [
            ("check", ("f", (0, 0, 1, 1))), ("end", "f"), ("fail", ("f", (0, 0, 0, 0))),
            ("tail", ("f", (0, 0, 1, 0, 0))),
        ])
        run = [("check", ("f", (0, 0, 1, 1)))]
        self.assertEqual(next_events(program, run), [
            ("call", ("f", (0, 1, 0, 0))), ("check", ("f", (0, 0, 1, 1))), ("end", "f"),
            ("fail", ("f", (0, 0, 0, 0))), ("tail", ("f", (0, 0, 1, 0, 0))),
        ])

    def test_numbers_are_ordered_as_numbers(self):
        body = [("either", [("check", "read")], []) for _ in range(12)]
        told = next_events(one_function(body), [])
        self.assertEqual(told, [("check", ("f", (at, 0, 0))) for at in range(12)] + [("end", "f")])


class TestRecursion(unittest.TestCase):
    def test_frames_of_one_function_are_apart(self):
        program = one_function([("either", [("call", "f"), ("check", "read")], [])])
        call, check, end = ("call", ("f", (0, 0, 0))), ("check", ("f", (0, 0, 1))), ("end", "f")
        self.assertEqual(stack_of(program, [call] * 5), ["f"] * 6)
        run = [call] * 5 + [end]
        for left in (5, 4, 3, 2, 1):
            self.assertEqual(stack_of(program, run), ["f"] * left)
            self.assertEqual(next_events(program, run), [check])
            run += [check, end]
        self.assertEqual(stack_of(program, run), [])

    def test_each_frame_goes_on_behind_its_own_call(self):
        program = two_functions([("call", "g"), ("loop", [("call", "g")])], [("either", [("call", "f")], [])])
        run = [("call", ("f", (0,))), ("call", ("g", (0, 0, 0))), ("call", ("f", (0,))), ("end", "g")]
        self.assertEqual(stack_of(program, run), ["f", "g", "f"])
        run += [("call", ("f", (1, 0))), ("end", "g"), ("end", "f")]
        self.assertEqual(stack_of(program, run), ["f", "g"])
        self.assertEqual(next_events(program, run), [("end", "g")])


class TestRefusals(unittest.TestCase):
    def test_refused_programs(self):
        for value in odd_values():
            if isinstance(value, Program):
                continue
            for called in (is_run, next_events, stack_of, walk_of):
                with self.assertRaises(InvalidProgram) as caught:
                    called(value, None)
                self.assertIs(caught.exception.value, value)

    def refuses_run(self, program, value):
        self.assertIs(is_run(program, value), False)
        for called in (next_events, stack_of, walk_of):
            with self.assertRaises(InvalidRun) as caught:
                called(program, value)
            self.assertIs(caught.exception.value, value)

    def test_values_that_are_no_runs(self):
        for value in odd_values() + [(), ("call", ("main", (0,))), (("call", ("main", (0,))),), deep_list(30)]:
            if value != []:
                self.refuses_run(store(), value)

    def test_events_that_are_none(self):
        start = [("call", ("main", (0,)))]
        for value in odd_values() + ODD_EVENTS:
            self.refuses_run(store(), [value])
            self.refuses_run(store(), [value] + start)
            self.refuses_run(store(), start + [value])

    def test_words_and_places_of_every_kind(self):
        for value in odd_values():
            for word in ("call", "tail", "check", "fail", "end"):
                self.refuses_run(store(), [(word, value)])
            self.refuses_run(store(), [("call", (value, (0,)))])
            self.refuses_run(store(), [("call", ("main", value))])
            if repr(value) != "'call'":
                self.refuses_run(store(), [(value, ("main", (0,)))])
            if repr(value) != "0":
                self.refuses_run(store(), [("call", ("main", (value,)))])

    def test_a_boolean_is_no_number_in_a_path(self):
        program = one_function([("loop", [("check", "read")]), ("either", [], [("check", "read")])])
        self.assertTrue(is_run(program, [("check", ("f", (0, 0))), ("check", ("f", (1, 1, 0)))]))
        for path in [(False, 0), (0, False), (False, False)]:
            self.refuses_run(program, [("check", ("f", path))])
        for path in [(True, 1, 0), (1, True, 0), (1, 1, False)]:
            self.refuses_run(program, [("check", ("f", path))])

    def test_a_place_in_another_function(self):
        program = two_functions([("call", "g"), ("check", "read")], [("check", "read"), ("check", "read")])
        self.assertTrue(is_run(program, [("call", ("f", (0,))), ("check", ("g", (0,)))]))
        self.refuses_run(program, [("call", ("f", (0,))), ("check", ("f", (1,)))])
        self.refuses_run(program, [("call", ("f", (0,))), ("check", ("f", (0,)))])
        self.refuses_run(program, [("call", ("g", (0,)))])
        self.refuses_run(program, [("call", ("f", (0,))), ("check", ("g", (1,)))])

    def test_steps_without_events(self):
        body = [("back",), ("loop", [("check", "read")]), ("block", True, [("check", "read")])]
        program = one_function(body)
        for word in ("call", "tail", "check", "fail", "back", "loop", "block"):
            for path in ((0,), (1,), (2,)):
                self.refuses_run(program, [(word, ("f", path))])


class TestResults(unittest.TestCase):
    def test_arguments_are_not_changed(self):
        program = store()
        run = [("call", ("main", (0,))), ("check", ("save", (0, 0)))]
        before = repr(run)
        for called in (is_run, next_events, stack_of, walk_of):
            called(program, run)
            self.assertEqual(repr(run), before)
        self.assertEqual(repr(program.functions()), repr(STORE_FUNCTIONS))

    def test_new_lists(self):
        program = store()
        run = [("call", ("main", (0,))), ("check", ("save", (0, 0)))]
        for called in (next_events, stack_of, walk_of):
            first = called(program, run)
            before = repr(first)
            found = lists_in(first)
            self.assertEqual(len({id(part) for part in found}), len(found))
            self.assertFalse(any(part is run for part in found))
            spoil(first)
            self.assertEqual(repr(called(program, run)), before)
        self.assertEqual(program, store())

    def test_a_run_that_goes_on_is_judged_anew(self):
        program = store()
        run = []
        self.assertEqual(stack_of(program, run), ["main"])
        run.append(("call", ("main", (0,))))
        self.assertEqual(stack_of(program, run), ["main", "save"])
        run.append(("end", "save"))
        self.assertFalse(is_run(program, run))


class TestAgainstReference(unittest.TestCase):
    """Runs of programs of every kind, beside runs by brute force."""

    def spoilt(self, chance, run, events):
        """A list of events that may or may not be a run."""
        other = list(run)
        at = chance.randrange(len(other) + 1)
        kind = chance.choice(["drop", "twice", "swap", "put"])
        if kind == "put" or at == len(other):
            other.insert(at, chance.choice(events))
        elif kind == "drop":
            del other[at]
        elif kind == "twice":
            other.insert(at, other[at])
        else:
            other[at] = chance.choice(events)
        return other

    def possible(self, reference, run):
        stacks = reference.start()
        for event in run:
            stacks = reference.go(stacks, event)
            if not stacks:
                return False
        return True

    def test_random_runs(self):
        for seed in range(250):
            program = random_program(seed)
            reference = Reference(program)
            chance = random.Random(seed)
            stacks, run, seen = reference.start(), [], [("end", "f"), ("end", "main")]
            for _ in range(25):
                wanted = reference.next_events(stacks)
                self.assertEqual(repr(next_events(program, run)), repr(wanted))
                self.assertIs(is_run(program, run), True)
                if None not in stacks:
                    self.assertEqual(stack_of(program, run), reference.names(stacks))
                seen.extend(wanted)
                other = self.spoilt(chance, run, seen)
                self.assertIs(is_run(program, other), self.possible(reference, other))
                if not wanted:
                    break
                event = chance.choice(wanted)
                if event[0] in ("check", "fail"):
                    before = reference.names(stacks)
                    (stack,) = {self.met(reference, stack, event) for stack in stacks} - {None}
                    self.assertEqual(walk_of(program, run + [event]), list(stack))
                    self.assertEqual(stack_of(program, run + [event]), before)
                stacks = reference.go(stacks, event)
                run.append(event)

    def met(self, reference, stack, event):
        if event not in [told for told, _ in reference.events_from(stack)]:
            return None
        return tuple(reference.walk(stack, event[1][1]))

    def test_all_short_runs(self):
        for seed in range(40):
            program = random_program(1000 + seed)
            reference = Reference(program)
            level = [([], reference.start())]
            for _ in range(4):
                further = []
                for run, stacks in level[:60]:
                    events = reference.next_events(stacks)
                    self.assertEqual(next_events(program, run), events)
                    further.extend([(run + [event], reference.go(stacks, event)) for event in events])
                level = further


class TestLimits(unittest.TestCase):
    def test_deep_stacks(self):
        program = one_function([("loop", [("either", [("call", "f")], [("check", "read")])])])
        call, check = ("call", ("f", (0, 0, 0, 0))), ("check", ("f", (0, 0, 1, 0)))
        run = [call] * 299 + [check]
        self.assertTrue(is_run(program, run))
        self.assertEqual(stack_of(program, run), ["f"] * 300)
        self.assertEqual(walk_of(program, run), ["f"] * 300)
        self.assertEqual(next_events(program, run), [call, check, ("end", "f")])
        self.assertTrue(is_run(program, [call] * 149 + [check] * 2 + [("end", "f")] * 149))

    def test_a_run_event_by_event(self):
        program = one_function([("loop", [("either", [("call", "f")], [("check", "read")])])])
        call, check = ("call", ("f", (0, 0, 0, 0))), ("check", ("f", (0, 0, 1, 0)))
        run = []
        for event in [call] * 150 + [check] * 150:
            self.assertIn(event, next_events(program, run))
            run.append(event)
        self.assertEqual(len(walk_of(program, run)), 151)

    def test_the_largest_programs(self):
        names = ["a", "b", "c", "d", "e", "f"]
        inner = [("either", [("call", name)], [("check", "read")]) for name in names[:4]]
        body = [("loop", [("loop", [("block", True, inner)])]), ("back",)]
        functions = [(name, "app", body) for name in names]
        program = Program(["read", "write", "x", "y", "z"], [("app", ["read"])], functions)
        chance = random.Random(7)
        run = []
        for _ in range(300):
            run.append(chance.choice([event for event in next_events(program, run) if event != ("end", "a")]))
        self.assertTrue(is_run(program, run))

    def test_large_bodies(self):
        body = [("loop", [("either", [("check", "read")], [("loop", [("check", "read")])])] * 250)]
        program = one_function(body)
        self.assertEqual(len(next_events(program, [])), 501)
        run = [("check", ("f", (0, at, 0, 0))) for at in range(250)]
        self.assertEqual(len(next_events(program, run)), 501)
        self.assertTrue(is_run(program, run + [("check", ("f", (0, 3, 1, 0, 0)))] * 50))


if __name__ == "__main__":
    unittest.main()
