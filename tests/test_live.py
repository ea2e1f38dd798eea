"""Promises [65] and [66]."""

import copy
import random
import unittest

from callersrights.checks import first_fail, outcome
from callersrights.errors import InvalidItem, InvalidPlace, InvalidProgram, NothingToUndo, TakenName, UnknownName
from callersrights.library import Library
from callersrights.live import Live
from callersrights.programs import Program, places
from callersrights.runs import is_run
from samples import Case, lists_in, nested, odd_values, random_body, random_program, size, spoil, store

RIGHTS = ["read", "write", "log"]
OWNERS = [("app", ["write", "read"]), ("lib", []), ("sys", ["log"])]
FUNCTIONS = [
    ("main", "app", [("call", "save"), ("loop", [("check", "read")])]),
    ("save", "lib", [("either", [("block", True, [("check", "write")])], [("tail", "main")])]),
    ("open", "sys", []),
]


def office():
    """A program with an owner without rights."""
    return Program(RIGHTS, OWNERS, FUNCTIONS)


def contents(program):
    """A text of all that a program has."""
    return repr((program.rights(), program.owners(), program.functions()))


class LiveCase(Case):
    def refused(self, live, error, wrong, called, *arguments):
        """The same as for all calls, and the live program stays as it is."""
        before = contents(live.shown()), repr(live.log())
        self.refuses(error, wrong, called, *arguments)
        self.assertEqual((contents(live.shown()), repr(live.log())), before)


class TestDeeds(LiveCase):
    def test_grant(self):
        live = Live(office())
        self.assertIsNone(live.grant("lib", "write"))
        self.assertIsNone(live.grant(right="read", owner="lib"))
        self.assertIsNone(live.grant("sys", "read"))
        owners = [("app", ["write", "read"]), ("lib", ["write", "read"]), ("sys", ["log", "read"])]
        self.assertEqual(live.shown(), Program(RIGHTS, owners, FUNCTIONS))
        live.grant("lib", "log")
        self.assertEqual(live.shown().owners()[1], ("lib", ["write", "read", "log"]))

    def test_revoke(self):
        live = Live(office())
        self.assertIsNone(live.revoke("sys", "log"))
        self.assertEqual(live.shown(), Program(RIGHTS, OWNERS[:2] + [("sys", [])], FUNCTIONS))
        live.grant("app", "log")
        self.assertIsNone(live.revoke(right="read", owner="app"))
        self.assertEqual(live.shown().owners()[0], ("app", ["write", "log"]))
        live.grant("app", "read")
        self.assertEqual(live.shown().owners()[0], ("app", ["write", "log", "read"]))
        live.revoke("app", "write")
        self.assertEqual(live.shown().owners()[0], ("app", ["log", "read"]))

    def test_rewrite(self):
        live = Live(office())
        body = [("call", "open"), ("block", False, [("tail", "save")]), ("either", [], [("check", "log")]), ("back",)]
        self.assertIsNone(live.rewrite("save", body))
        self.assertEqual(live.shown(), Program(RIGHTS, OWNERS, [FUNCTIONS[0], ("save", "lib", body), FUNCTIONS[2]]))
        self.assertIsNone(live.rewrite(body=[], name="main"))
        functions = [("main", "app", []), ("save", "lib", body), FUNCTIONS[2]]
        self.assertEqual(live.shown(), Program(RIGHTS, OWNERS, functions))
        live.rewrite("open", [("tail", "open")])
        self.assertEqual(live.shown().functions()[2], ("open", "sys", [("tail", "open")]))

    def test_the_program_handed_in_stays(self):
        program = office()
        live = Live(program=program)
        live.grant("lib", "write")
        live.rewrite("main", [])
        live.revoke("app", "read")
        self.assertEqual(program, office())

    def test_refused_programs(self):
        for value in odd_values() + [Live(office()), Library(office()), FUNCTIONS]:
            if not isinstance(value, Program):
                self.refuses(InvalidProgram, value, Live, value)

    def test_refused_grants(self):
        live = Live(office())
        for value in odd_values() + ["main", ["app"], ("app",), ("app", []), "APP"]:
            for behind in ("read", None, []):
                self.refused(live, UnknownName, value, live.grant, value, behind)
        for value in odd_values() + ["app", "main", ["read"], ("log",)]:
            if value != "read":
                self.refused(live, UnknownName, value, live.grant, "lib", value)
        for owner, right in [("app", "write"), ("app", "read"), ("sys", "log")]:
            again = "".join(list(right))
            self.refused(live, TakenName, again, live.grant, owner, again)

    def test_refused_revokes(self):
        live = Live(office())
        for value in odd_values() + ["main", ["app"], ("app",), ("app", [])]:
            for behind in ("log", None, []):
                self.refused(live, UnknownName, value, live.revoke, value, behind)
        for value in odd_values() + ["log", "app", "main", ["read"], ("write",)]:
            if value != "read":
                self.refused(live, UnknownName, value, live.revoke, "app", value)
        for right in RIGHTS:
            self.refused(live, UnknownName, right, live.revoke, "lib", right)
        live.revoke("sys", "log")
        self.refused(live, UnknownName, "log", live.revoke, "sys", "log")

    def test_refused_rewrites(self):
        live = Live(office())
        for value in odd_values() + ["app", "read", ["main"], ("main",), ("main", (0,))]:
            for behind in ([], None):
                self.refused(live, UnknownName, value, live.rewrite, value, behind)
        tail = ("tail", "main")
        bodies = [
            (), ("back",), None, {}, "back", [None], [()], [[]], ["back"], [["back"]], [("back", "main")],
            [("call", "app")], [("call", "read")], [("call", "none")], [("call",)], [("check", "main")],
            [("check", "none")], [("go", "main")], [("loop", ())], [("loop", [None])], [("either", [])],
            [("either", [], [], [])], [("block", 1, [])], [("block", 0, [])], [("block", None, [])], [("block", True)],
            [("block", True, [tail])], [("back",), ("block", False, [("block", True, [("loop", [tail])])])],
            [("block", True, nested(tail, 3))], [("back",), ("call", ["main"])], [("rewrite", "main", [])],
            FUNCTIONS, OWNERS, RIGHTS, [office()],
        ]
        for body in bodies:
            self.refused(live, InvalidItem, body, live.rewrite, "save", body)
        for value in odd_values():
            if value not in ([], [("back",)]):
                self.refused(live, InvalidItem, value, live.rewrite, "main", value)

    def test_order_of_refusals(self):
        live = Live(office())
        self.refused(live, UnknownName, "no", live.grant, "no", "none")
        self.refused(live, UnknownName, "none", live.grant, "app", "none")
        self.refused(live, UnknownName, "no", live.revoke, "no", "none")
        self.refused(live, UnknownName, "no", live.rewrite, "no", None)

    def test_names_of_rights_and_owners_that_are_equal(self):
        live = Live(Program(["a", "b"], [("b", []), ("a", ["b"])], [("a", "b", [])]))
        live.grant("b", "a")
        live.revoke("a", "b")
        live.rewrite("a", [("check", "b"), ("call", "a")])
        self.assertEqual(live.shown(), Program(["a", "b"], [("b", ["a"]), ("a", [])],
                                               [("a", "b", [("check", "b"), ("call", "a")])]))
        body = [("call", "b")]
        self.refused(live, InvalidItem, body, live.rewrite, "a", body)

    def test_lists_changed_behind_the_call(self):
        live = Live(office())
        inner = [("check", "write")]
        body = [("either", inner, inner), ("loop", inner)]
        wanted = copy.deepcopy(body)
        live.rewrite("main", body)
        spoil(body)
        self.assertEqual(live.shown().functions()[0], ("main", "app", wanted))
        self.assertEqual(live.log(), [("rewrite", "main", wanted)])
        spoil([live.log(), live.shown().functions(), live.shown().owners(), live.shown().rights()])
        self.assertEqual(live.shown().functions()[0], ("main", "app", wanted))
        self.assertEqual(live.shown().owners(), OWNERS)
        self.assertEqual(live.log(), [("rewrite", "main", wanted)])
        live.back()
        self.assertEqual(live.shown(), office())

    def test_no_argument_is_changed(self):
        live = Live(office())
        body = [("either", [("back",)], []), ("loop", [("block", True, [])])]
        before = repr(body)
        live.rewrite("main", body)
        live.rewrite("main", [])
        live.back()
        self.assertEqual(repr(body), before)


class TestShownAndAsked(LiveCase):
    def test_shown_is_not_changed_by_later_deeds(self):
        live = Live(office())
        told = [(live.shown(), contents(live.shown()))]
        for deed in (lambda: live.grant("lib", "write"), lambda: live.rewrite("main", [("check", "log")]),
                     lambda: live.revoke("app", "write"), live.back, live.back, lambda: live.revoke("sys", "log")):
            deed()
            told.append((live.shown(), contents(live.shown())))
            for program, before in told:
                self.assertIsInstance(program, Program)
                self.assertEqual(contents(program), before)
        self.assertEqual(told[0][0], office())
        self.assertEqual(told[1][0], told[5][0])

    def test_outcome_and_first_fail(self):
        live = Live(store())
        place = ("save", (1, 0, 0))
        self.assertEqual(live.outcome(place), "fails")
        run = [("call", ("main", (0,))), ("check", ("save", (0, 0))), ("fail", place)]
        self.assertEqual(live.first_fail(), run)
        live.grant("app", "write")
        self.assertEqual(live.outcome(place=place), "passes")
        self.assertIsNone(live.first_fail())
        live.rewrite("main", [])
        self.assertEqual(live.outcome(place), "never")
        live.back()
        self.assertEqual(live.outcome(place), "passes")
        live.revoke("lib", "write")
        self.assertEqual(live.outcome(place), "never")
        self.assertEqual(live.outcome(("save", (0, 0))), "fails")
        self.assertEqual(size(live.first_fail()), 2)
        live.back()
        live.back()
        self.assertEqual(live.first_fail(), run)
        self.assertEqual(live.outcome(place), "fails")

    def test_places_are_those_of_the_program_as_it_stands(self):
        live = Live(store())
        place = ("save", (1, 0, 0))
        live.rewrite("save", [("check", "read")])
        self.refused(live, InvalidPlace, place, live.outcome, place)
        self.assertEqual(live.outcome(("save", (0,))), "passes")
        live.back()
        spot = ("save", (0,))
        self.refused(live, InvalidPlace, spot, live.outcome, spot)
        self.assertEqual(live.outcome(place), "fails")

    def test_refused_places(self):
        live = Live(store())
        for value in odd_values() + [("main", (0,)), ("main", (1,)), ("save", (0,)), ["save", (0, 0)], ("none", (0,))]:
            self.refused(live, InvalidPlace, value, live.outcome, value)

    def test_told_runs_are_new_lists(self):
        live = Live(store())
        run = live.first_fail()
        before = list(run)
        spoil(run)
        self.assertEqual(live.first_fail(), before)

    def test_against_checks_in_any_order(self):
        for seed in range(60):
            chance = random.Random(seed)
            live = Live(random_program(50000 + seed))
            for _ in range(12):
                deed_by_chance(live, chance)
                program = live.shown()
                fail = first_fail(program)
                asked = [("fail", None)] + [("place", place) for place in places(program, "check")]
                chance.shuffle(asked)
                for word, place in asked[:3] + asked[:1]:
                    if word == "fail":
                        self.assertEqual(size(live.first_fail()), size(fail))
                        self.assertTrue(fail is None or is_run(program, live.first_fail()))
                    else:
                        self.assertEqual(live.outcome(place), outcome(program, place))


def deed_by_chance(live, chance):
    """Do something with a live program, perhaps what is refused, and tell what."""
    program = live.shown()
    owner, right = chance.choice(program.owners())[0], chance.choice(program.rights())
    names = [name for name, _, _ in program.functions()]
    word = chance.choice(["grant", "revoke", "rewrite", "back"])
    try:
        if word == "grant":
            live.grant(owner, right)
        elif word == "revoke":
            live.revoke(owner, right)
        elif word == "rewrite":
            live.rewrite(chance.choice(names), random_body(chance, names, program.rights(), [8], 4, False))
        else:
            live.back()
    except (TakenName, UnknownName, NothingToUndo):
        return None
    return word


class TestBack(LiveCase):
    def test_nothing_to_undo(self):
        live = Live(office())
        self.assertRaises(NothingToUndo, live.back)
        live.grant("lib", "read")
        self.assertIsNone(live.back())
        self.assertRaises(NothingToUndo, live.back)
        self.assertEqual(live.shown(), office())
        self.assertEqual(live.log(), [])

    def test_back_to_the_beginning(self):
        live = Live(office())
        deeds = [
            ("grant", "lib", "log"), ("revoke", "app", "write"), ("rewrite", "main", [("loop", [("back",)])]),
            ("grant", "app", "write"), ("rewrite", "main", []), ("revoke", "lib", "log"), ("grant", "lib", "log"),
        ]
        shown = [live.shown()]
        for word, *arguments in deeds:
            getattr(live, word)(*arguments)
            shown.append(live.shown())
        self.assertEqual(live.log(), deeds)
        for left in range(len(deeds), 0, -1):
            self.assertEqual(live.shown(), shown[left])
            self.assertEqual(live.log(), deeds[:left])
            live.back()
        self.assertEqual(live.shown(), office())
        self.assertRaises(NothingToUndo, live.back)

    def test_back_puts_a_right_where_it_was(self):
        live = Live(Program(RIGHTS, [("app", ["write", "log", "read"])], [("f", "app", [])]))
        live.revoke("app", "log")
        live.back()
        self.assertEqual(live.shown().owners(), [("app", ["write", "log", "read"])])

    def test_further_deeds_behind_back(self):
        live = Live(office())
        live.grant("lib", "read")
        live.grant("lib", "write")
        live.back()
        live.rewrite("main", [])
        self.assertEqual(live.log(), [("grant", "lib", "read"), ("rewrite", "main", [])])
        live.back()
        live.back()
        self.assertEqual(live.shown(), office())

    def test_refused_deeds_are_not_undone(self):
        live = Live(office())
        live.grant("lib", "read")
        self.assertRaises(TakenName, live.grant, "lib", "read")
        self.assertRaises(UnknownName, live.revoke, "lib", "write")
        self.assertRaises(InvalidItem, live.rewrite, "main", None)
        self.assertRaises(InvalidPlace, live.outcome, None)
        self.assertEqual(live.log(), [("grant", "lib", "read")])
        live.back()
        self.assertEqual(live.shown(), office())
        self.assertRaises(NothingToUndo, live.back)
        self.assertRaises(TakenName, live.grant, "app", "read")
        self.assertRaises(NothingToUndo, live.back)

    def test_deeds_that_change_nothing_are_deeds(self):
        live = Live(office())
        live.rewrite("open", [])
        live.rewrite("open", [])
        self.assertEqual(live.log(), [("rewrite", "open", []), ("rewrite", "open", [])])
        live.back()
        live.back()
        self.assertRaises(NothingToUndo, live.back)

    def test_log_is_made_of_tuples_and_new_lists(self):
        live = Live(office())
        inner = [("back",)]
        live.rewrite("main", [("either", inner, inner)])
        live.rewrite("save", [("either", inner, inner)])
        live.grant("lib", "read")
        told = live.log()
        self.assertEqual(repr(told), repr([
            ("rewrite", "main", [("either", [("back",)], [("back",)])]),
            ("rewrite", "save", [("either", [("back",)], [("back",)])]), ("grant", "lib", "read")]))
        found = lists_in([told, live.log()])
        self.assertEqual(len({id(part) for part in found}), len(found))

    def test_two_hundred_deeds(self):
        chance = random.Random(7)
        live = Live(office())
        shown = [contents(live.shown())]
        while len(live.log()) < 200:
            if deed_by_chance(live, chance) == "back":
                shown.pop()
            elif len(live.log()) == len(shown):
                shown.append(contents(live.shown()))
        self.assertEqual(len(live.log()), 200)
        twin = live.copy()
        for each in (twin, live):
            for before in shown[:0:-1]:
                self.assertEqual(contents(each.shown()), before)
                each.back()
            self.assertEqual(each.shown(), office())
            self.assertEqual(each.log(), [])


class TestCopies(LiveCase):
    def test_copies_go_their_own_ways(self):
        live = Live(office())
        live.grant("lib", "read")
        twin = live.copy()
        self.assertIsInstance(twin, Live)
        self.assertIsNot(twin, live)
        self.assertTrue(twin == live)
        self.assertEqual(twin.log(), live.log())
        live.rewrite("main", [])
        self.assertEqual(twin.log(), [("grant", "lib", "read")])
        self.assertEqual(twin.shown().functions(), FUNCTIONS)
        self.assertFalse(twin == live)
        twin.revoke("app", "read")
        self.assertEqual(live.log(), [("grant", "lib", "read"), ("rewrite", "main", [])])
        twin.back()
        twin.back()
        self.assertEqual(twin.shown(), office())
        self.assertRaises(NothingToUndo, twin.back)
        self.assertEqual(live.shown().owners()[1], ("lib", ["read"]))
        live.back()
        live.back()
        self.assertEqual(live.shown(), office())
        self.assertRaises(NothingToUndo, live.back)

    def test_copies_of_copies(self):
        live = Live(office())
        live.rewrite("main", [("back",)])
        twin = live.copy().copy()
        live.back()
        self.assertEqual(twin.log(), [("rewrite", "main", [("back",)])])
        twin.back()
        self.assertEqual(twin.shown(), office())
        self.assertRaises(NothingToUndo, twin.back)

    def test_lives_of_one_program(self):
        program = office()
        one, two = Live(program), Live(program)
        one.grant("lib", "read")
        self.assertEqual(two.shown(), office())
        self.assertEqual(two.log(), [])

    def test_equality(self):
        live, other = Live(office()), Live(office())
        self.assertIs(live == other, True)
        self.assertIs(live != other, False)
        self.assertIs(live == live, True)
        live.grant("lib", "read")
        self.assertIs(live == other, False)
        self.assertIs(live != other, True)
        live.revoke("lib", "read")
        self.assertIs(live == other, True)
        self.assertNotEqual(live.log(), other.log())
        other.rewrite("open", [("back",)])
        self.assertIs(live == other, False)
        other.back()
        self.assertIs(live == other, True)
        self.assertIs(live == Live(store()), False)

    def test_equality_with_rights_in_another_order(self):
        live, other = Live(office()), Live(office())
        live.revoke("app", "write")
        live.grant("app", "write")
        self.assertIs(live == other, False)
        self.assertIs(live != other, True)

    def test_other_objects(self):
        live = Live(office())
        for other in [office(), Library(office()), *[value for value in odd_values() if not isinstance(value, Live)]]:
            self.assertIs(live == other, False)
            self.assertIs(other == live, False)
            self.assertIs(live != other, True)
            self.assertIs(other != live, True)
        self.assertFalse(isinstance(live, Program))


if __name__ == "__main__":
    unittest.main()
