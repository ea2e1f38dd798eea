"""Promise [22]."""

import random
import unittest

from callersrights.errors import InvalidProgram
from callersrights.programs import Program
from callersrights.standings import can_end, is_table, table
from fixpoint import NEVER, Fixpoint, Rights
from samples import Case, choices, deep_list, dense_program, odd_values, one_function, open_program, some_program
from samples import store, two_functions

ALL = ["read", "write"]


def is_table_slowly(program, value):
    """Whether a list of tuples of the right form is a table, by the words of [22] and no shortcut."""
    fixpoint = Fixpoint.__new__(Fixpoint)
    fixpoint.handing = Rights(program)
    fixpoint.reference = fixpoint.handing.reference
    # A frame with True counts as one that ends: then only calls that go on are gone on behind.
    fixpoint.ends = {(name, frozenset(handed)): 1 for name, handed, ends in value if ends}
    told = [(name, frozenset(handed)) for name, handed, _ in value]
    if len(set(told)) != len(told) or (fixpoint.reference.first, fixpoint.handing.first) not in told:
        return False
    for name, handed, ends in value:
        for _, word, _, _, _, brought in fixpoint.steps_of((name, frozenset(handed))):
            if brought and brought not in told:
                return False
            if (word == "end" or word == "tail" and brought in fixpoint.ends) and not ends:
                return False
    return True


class TestTable(Case):
    def test_the_documents_example(self):
        wanted = [("main", ["read", "write"], True), ("save", ["read"], True)]
        self.assertEqual(table(store()), wanted)
        self.assertEqual(table(program=store()), wanted)
        self.assertIs(is_table(store(), wanted), True)
        self.assertIs(is_table(program=store(), value=wanted), True)

    def test_only_frames_that_runs_bring(self):
        program = two_functions([("check", "write"), ("call", "g")], [])
        self.assertEqual(table(program), [("f", ALL, False)])
        program = two_functions([], [("call", "f")])
        self.assertEqual(table(program), [("f", ALL, True)])
        program = two_functions([("call", "f"), ("call", "g")], [])
        self.assertEqual(table(program), [("f", ["read"], False), ("f", ALL, False)])

    def test_in_order(self):
        functions = [("b", "x", [("call", "a"), ("block", True, [("call", "a")]), ("tail", "a")])]
        functions += [("a", "y", [("either", [("call", "b")], [])])]
        program = Program(["write", "read"], [("x", ["read"]), ("y", ["write"])], functions)
        told = table(program)
        self.assertEqual(told, [
            ("a", [], True), ("a", ["read"], True), ("a", ["write"], True), ("a", ["write", "read"], True),
            ("b", [], True), ("b", ["write"], True), ("b", ["write", "read"], True),
        ])
        self.assertEqual(told, sorted(told))

    def test_frames_that_took_a_place(self):
        program = two_functions([("tail", "g")], [("either", [("tail", "f")], [("tail", "g")])])
        self.assertEqual(table(program), [("f", ALL, False), ("g", ALL, False)])
        program = two_functions([("tail", "g")], [("check", "write")])
        self.assertEqual(table(program), [("f", ALL, True), ("g", ALL, True)])

    def test_ends(self):
        program = two_functions([("call", "g"), ("call", "f")], [("check", "read")])
        self.assertEqual(table(program), [
            ("f", ["read"], False), ("f", ALL, False), ("g", ["read"], True),
        ])
        program = two_functions([("loop", [("call", "g")])], [("check", "write")])
        self.assertEqual(table(program), [("f", ALL, True), ("g", ["read"], False)])

    def test_beside_another_way(self):
        for seed in range(300):
            program = some_program(seed)
            fixpoint = Fixpoint(Rights(program))
            wanted = []
            for name, handed in fixpoint.comes:
                rights = [right for right in program.rights() if right in handed]
                wanted.append((name, rights, fixpoint.ends[name, handed] < NEVER))
            told = table(program)
            self.assertEqual(told, sorted(wanted))
            for name, handed, ends in told:
                self.assertIs(ends, can_end(program, name, handed))
            self.assertIs(is_table(program, told), True)


class TestIsTable(Case):
    def test_any_order(self):
        self.assertIs(is_table(store(), [("save", ["read"], True), ("main", ALL, True)]), True)

    def test_more_tuples(self):
        more = [("main", ALL, True), ("save", ["read"], True), ("save", [], True), ("save", ALL, True)]
        self.assertIs(is_table(store(), more), True)
        self.assertIs(is_table(store(), more + [("main", ["write"], False)]), False)
        self.assertIs(is_table(store(), more + [("main", ["write"], True)]), True)
        # With no right, the loop of main is not taken.
        self.assertIs(is_table(store(), more + [("main", [], True)]), True)

    def test_more_tuples_have_to_fit_as_well(self):
        program = two_functions([("either", [("call", "g")], [])], [("either", [("call", "g")], [])])
        told = [("f", ALL, True), ("g", ["read"], True)]
        self.assertEqual(table(program), told)
        self.assertIs(is_table(program, told + [("f", [], True)]), False)
        self.assertIs(is_table(program, told + [("f", [], True), ("g", [], True)]), True)
        self.assertIs(is_table(program, told + [("g", ["write"], True)]), True)

    def test_bent_in_one_thing(self):
        told = [("main", ALL, True), ("save", ["read"], True)]
        for bent in [
            [], told[:1], told[1:], told + told[:1], told + told[1:], told + [("save", ["read"], False)],
            [("main", ALL, False), told[1]], [told[0], ("save", ["read"], False)],
            [("main", ["read"], True), told[1]], [("main", ["write", "read"], True), told[1]],
            [("main", [], True), told[1]], [told[0], ("save", [], True)], [told[0], ("save", ALL, True)],
            [told[0], ("save", ["read", "read"], True)], [told[0], ("save", ["other"], True)],
            [("save", ALL, True), ("save", ["read"], True)], [told[0], ("other", ["read"], True)],
            [("main", tuple(ALL), True), told[1]], [list(told[0]), told[1]], [("main", ALL), told[1]],
            [("main", ALL, True, 0), told[1]], [("main", ALL, 1), told[1]], [("main", ALL, None), told[1]],
            [(["main"], ALL, True), told[1]], [("main", None, True), told[1]], [("main", "read", True), told[1]],
            tuple(told), {}, dict(enumerate(told)), told[0],
        ]:
            self.assertIs(is_table(store(), bent), False, bent)
        self.assertIs(is_table(store(), told), True)

    def test_values_of_every_kind_in_every_place(self):
        told = [("main", ALL, True), ("save", ["read"], True)]
        for value in odd_values() + [deep_list(29)]:
            self.assertIs(is_table(store(), value), False)
            self.assertIs(is_table(store(), told + [value]), False)
            self.assertIs(is_table(store(), [value] + told), False)
            self.assertIs(is_table(store(), [(value, ALL, True), told[1]]), False)
            self.assertIs(is_table(store(), [("main", value, True), told[1]]), False)
            self.assertIs(is_table(store(), [("main", ["read", value], True), told[1]]), False)
            if value is not True:
                self.assertIs(is_table(store(), [("main", ALL, value), told[1]]), False)

    def test_a_boolean_that_may_be_either(self):
        program = one_function([("call", "f")])
        told = [("f", ["read"], False), ("f", ALL, False)]
        self.assertEqual(table(program), told)
        for first in (False, True):
            for second in (False, True):
                # With True the call is gone on behind, to the end of the body.
                fits = second or not first
                value = [("f", ["read"], first), ("f", ALL, second)]
                self.assertIs(is_table(program, value), fits, value)
        program = one_function([("check", "write"), ("call", "f")])
        self.assertIs(is_table(program, [("f", ALL, False)]), True)
        self.assertIs(is_table(program, [("f", ALL, True)]), True)

    def test_calls_are_gone_on_behind_as_is_told(self):
        program = two_functions([("call", "g"), ("call", "f")], [("call", "g")])
        self.assertEqual(table(program), [("f", ALL, False), ("g", ["read"], False)])
        self.assertIs(is_table(program, [("f", ALL, False), ("g", ["read"], True)]), False)
        more = [("f", ALL, False), ("g", ["read"], True), ("f", ["read"], False)]
        self.assertIs(is_table(program, more), True)
        self.assertIs(is_table(program, [("f", ALL, False), ("g", ["read"], True), ("f", ["read"], True)]), False)

    def test_tail_calls(self):
        program = two_functions([("tail", "g")], [("check", "write"), ("check", "read")])
        self.assertEqual(table(program), [("f", ALL, True), ("g", ALL, True)])
        self.assertIs(is_table(program, [("f", ALL, False), ("g", ALL, True)]), False)
        self.assertIs(is_table(program, [("f", ALL, True), ("g", ALL, False)]), False)
        self.assertIs(is_table(program, [("f", ALL, True), ("g", ["read"], True)]), False)
        program = one_function([("tail", "f")])
        self.assertIs(is_table(program, [("f", ALL, False)]), True)
        self.assertIs(is_table(program, [("f", ALL, True)]), True)
        # Nothing behind a tail call is got to, whatever is told of the frame that takes the place.
        program = two_functions([("tail", "g"), ("call", "f")], [("tail", "g")])
        self.assertIs(is_table(program, [("f", ALL, True), ("g", ALL, True)]), True)
        self.assertIs(is_table(program, [("f", ALL, False), ("g", ALL, True)]), False)

    def test_two_tables_with_unlike_booleans(self):
        program = two_functions([("either", [("tail", "g")], [])], [("tail", "g")])
        for ends in (False, True):
            self.assertIs(is_table(program, [("f", ALL, True), ("g", ALL, ends)]), True)
            self.assertIs(is_table(program, [("f", ALL, False), ("g", ALL, ends)]), False)

    def test_bent_tables_beside_another_way(self):
        found = {True: 0, False: 0}
        for seed in range(150):
            make = dense_program if seed % 2 else open_program
            program = make(seed, rights=2, owners=3, functions=3)
            chance = random.Random(seed)
            rows = [(name, handed) for name, _, _ in program.functions() for handed in choices(program.rights())]
            everything = [(name, handed, can_end(program, name, handed)) for name, handed in rows]
            for start in (table(program), everything):
                for _ in range(12):
                    value = list(start)
                    for _ in range(chance.randint(0, 2)):
                        at = chance.randrange(len(value))
                        name, handed, ends = value[at]
                        kind = chance.choice(["drop", "turn", "turn", "put", "twice"])
                        if kind == "drop" and len(value) > 1:
                            del value[at]
                        elif kind == "turn":
                            value[at] = (name, handed, not ends)
                        elif kind == "put":
                            value.append(chance.choice(everything))
                        elif kind == "twice":
                            value.insert(0, value[at])
                    chance.shuffle(value)
                    wanted = is_table_slowly(program, value)
                    self.assertIs(is_table(program, value), wanted)
                    found[wanted] += 1
        self.assertGreater(min(found.values()), 300)

    def test_refused_programs(self):
        for value in odd_values():
            if not isinstance(value, Program):
                self.refuses(InvalidProgram, value, table, value)
                self.refuses(InvalidProgram, value, is_table, value, [])


if __name__ == "__main__":
    unittest.main()
