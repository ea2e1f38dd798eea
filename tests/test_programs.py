"""Promises [10] and [11], and [2] and [3] for them."""

import copy
import unittest

from callersrights.errors import InvalidItem, InvalidList, RightsError
from callersrights.programs import Program
from samples import STORE_FUNCTIONS, deep_list, lists_in, nested, odd_values, one_function, spoil, store

RIGHTS = ["read", "write"]
OWNERS = [("app", ["read"]), ("lib", ["write", "read"])]
FUNCTIONS = [("main", "app", [("call", "save")]), ("save", "lib", [])]


class Refusals(unittest.TestCase):
    """Ways to look at what a call refuses."""

    def refuses(self, error, thing, rights, owners, functions):
        before = repr((rights, owners, functions))
        with self.assertRaises(error) as caught:
            Program(rights, owners, functions)
        self.assertIs(type(caught.exception), error)
        self.assertIs(caught.exception.value, thing)
        self.assertEqual(repr((rights, owners, functions)), before)

    def refuses_body(self, body):
        item = ("f", "app", body)
        self.refuses(InvalidItem, item, RIGHTS, OWNERS, FUNCTIONS + [item])

    def refuses_step(self, step):
        self.refuses_body([step])
        self.refuses_body([("back",), step])
        self.refuses_body([("loop", [step])])
        self.refuses_body([("either", [step], [])])
        self.refuses_body([("either", [], [step])])
        self.refuses_body([("block", True, [step])])
        self.refuses_body([("block", False, [("loop", [("either", [], [("back",), step])])])])


class TestProgram(unittest.TestCase):
    def test_lists_as_they_were_given(self):
        made = Program(RIGHTS, OWNERS, FUNCTIONS)
        self.assertEqual(made.rights(), ["read", "write"])
        self.assertEqual(made.owners(), [("app", ["read"]), ("lib", ["write", "read"])])
        self.assertEqual(made.functions(), [("main", "app", [("call", "save")]), ("save", "lib", [])])
        self.assertEqual(repr(store().functions()), repr(STORE_FUNCTIONS))

    def test_by_name(self):
        made = Program(functions=FUNCTIONS, rights=RIGHTS, owners=OWNERS)
        self.assertEqual(made, Program(RIGHTS, OWNERS, FUNCTIONS))

    def test_kinds_of_what_is_returned(self):
        body = [("either", [("loop", [])], [("block", False, [("back",)])]), ("block", True, [("check", "read")])]
        made = one_function(body)
        self.assertEqual(repr(made.functions()), repr([("f", "app", body)]))
        self.assertEqual(repr(made.owners()), repr([("app", ["read"])]))
        self.assertIs(made.functions()[0][2][1][1], True)

    def test_new_lists_each_time(self):
        made = store()
        for told in (made.rights, made.owners, made.functions):
            first, second = told(), told()
            self.assertEqual(first, second)
            known = {id(part) for part in lists_in(first)}
            self.assertFalse([part for part in lists_in(second) if id(part) in known])

    def test_changed_results_change_nothing(self):
        made = store()
        for told in (made.rights, made.owners, made.functions):
            spoil(told())
        self.assertEqual(made, store())
        self.assertEqual(repr(made.functions()), repr(STORE_FUNCTIONS))

    def test_changed_arguments_change_nothing(self):
        rights, owners, functions = list(RIGHTS), copy.deepcopy(OWNERS), copy.deepcopy(STORE_FUNCTIONS)
        made = Program(rights, owners, functions)
        spoil(rights)
        spoil(owners)
        spoil(functions)
        self.assertEqual(made.rights(), RIGHTS)
        self.assertEqual(made.owners(), OWNERS)
        self.assertEqual(made.functions(), STORE_FUNCTIONS)

    def test_arguments_are_not_changed(self):
        rights, owners, functions = list(RIGHTS), copy.deepcopy(OWNERS), copy.deepcopy(STORE_FUNCTIONS)
        Program(rights, owners, functions)
        self.assertEqual(repr((rights, owners, functions)), repr((RIGHTS, OWNERS, STORE_FUNCTIONS)))

    def test_one_list_given_in_many_places_is_returned_as_many_lists(self):
        inner = [("back",)]
        body = [("either", inner, inner), ("loop", inner), ("block", True, inner)]
        own = ["read"]
        functions = [("f", "app", body), ("g", "app", body), ("h", "lib", inner)]
        made = Program(own, [("app", own), ("lib", own)], functions)
        self.assertEqual(repr(made.functions()), repr(functions))
        for told in (made.owners(), made.functions()):
            found = lists_in(told)
            self.assertEqual(len({id(part) for part in found}), len(found))

    def test_most_and_fewest(self):
        rights = ["a", "b", "c", "d", "abcdefgh"]
        owners = [(name, []) for name in rights]
        functions = [(name, "a", []) for name in ["a", "b", "c", "d", "e", "abcdefgh"]]
        made = Program(rights, owners, functions)
        self.assertEqual((made.rights(), made.owners(), made.functions()), (rights, owners, functions))
        made = Program(["a"], [("a", [])], [("a", "a", [])])
        self.assertEqual((made.rights(), made.owners(), made.functions()), (["a"], [("a", [])], [("a", "a", [])]))

    def test_functions_may_be_named_ahead_of_themselves_and_in_their_own_bodies(self):
        functions = [
            ("f", "app", [("call", "h"), ("tail", "g"), ("call", "f")]),
            ("g", "app", [("loop", [("tail", "g"), ("block", True, [("call", "h")])])]),
            ("h", "app", [("tail", "f")]),
        ]
        self.assertEqual(Program(RIGHTS, OWNERS, functions).functions(), functions)

    def test_large_bodies(self):
        body = [("check", "read")] * 1000
        functions = [(name, "app", body) for name in ["a", "b", "c", "d", "e", "f"]]
        self.assertEqual(Program(RIGHTS, OWNERS, functions).functions(), functions)
        deep = nested(("tail", "f"), 12)
        self.assertEqual(one_function(deep * 40).functions(), [("f", "app", deep * 40)])


class TestEquality(unittest.TestCase):
    def test_equal(self):
        self.assertIs(store() == store(), True)
        self.assertIs(store() != store(), False)
        made = store()
        self.assertIs(made == made, True)
        self.assertIs(Program(made.rights(), made.owners(), made.functions()) == made, True)

    def test_unlike(self):
        made = store()
        rights, owners, functions = made.rights(), made.owners(), made.functions()
        others = [
            Program(["write", "read"], owners, functions),
            Program(["read", "write", "a"], owners, functions),
            Program(rights, [("lib", ["read", "write"]), ("app", ["read"])], functions),
            Program(rights, [("app", ["read"]), ("lib", ["write", "read"])], functions),
            Program(rights, [("app", []), ("lib", ["read", "write"])], functions),
            Program(rights, owners, [functions[1], functions[0]]),
            Program(rights, owners, [("main", "lib", functions[0][2]), functions[1]]),
            Program(rights, owners, [functions[0], ("save", "lib", [])]),
            Program(rights, owners, [functions[0], ("save", "lib", [("block", False, [])])]),
            Program(rights, owners, [functions[0], ("save", "lib", [("block", True, [])])]),
        ]
        for at, other in enumerate(others):
            self.assertIs(made == other, False)
            self.assertIs(other == made, False)
            self.assertIs(made != other, True)
            for further in others[at + 1:]:
                self.assertIs(other == further, False)

    def test_other_objects(self):
        made = store()
        others = [value for value in odd_values() if not isinstance(value, Program)]
        others += [made.functions(), (made.rights(), made.owners(), made.functions()), RightsError("no")]
        for other in others:
            self.assertIs(made == other, False)
            self.assertIs(other == made, False)
            self.assertIs(made != other, True)


class TestRefusedRights(Refusals):
    def test_no_list(self):
        for value in odd_values() + [("read", "write"), "ab", {"read": 1}]:
            if not isinstance(value, list):
                self.refuses(InvalidList, value, value, OWNERS, FUNCTIONS)

    def test_too_few_or_many(self):
        for value in ([], ["a", "b", "c", "d", "e", "f"], ["a"] * 6, [None] * 7):
            self.refuses(InvalidList, value, value, OWNERS, FUNCTIONS)

    def test_first_bad_item(self):
        for value in odd_values():
            if value not in ("f", "read", "call"):
                self.refuses(InvalidItem, value, ["a", value], OWNERS, FUNCTIONS)
                self.refuses(InvalidItem, value, [value, "", "a", "a"], OWNERS, FUNCTIONS)

    def test_equal_to_one_ahead(self):
        twice = "".join(["re", "ad"])
        self.refuses(InvalidItem, twice, ["read", "write", twice, ""], OWNERS, FUNCTIONS)

    def test_names(self):
        for text in ["", "a1", "A", "a ", " a", "a\n", "a_b", "\u00e4", "\u0131", "abcdefghi", "a-b", "\uff41"]:
            self.refuses(InvalidItem, text, [text], OWNERS, FUNCTIONS)
        for text in ["a", "z", "abcdefgh", "or", "zzzzzzzz"]:
            self.assertEqual(Program([text], [(text, [text])], [(text, text, [])]).rights(), [text])


class TestRefusedOwners(Refusals):
    def test_no_list(self):
        for value in odd_values() + [tuple(OWNERS), {"app": ["read"]}]:
            if not isinstance(value, list):
                self.refuses(InvalidList, value, RIGHTS, value, FUNCTIONS)

    def test_too_few_or_many(self):
        for value in ([], [(name, []) for name in "abcdef"], [None] * 6):
            self.refuses(InvalidList, value, RIGHTS, value, FUNCTIONS)

    def test_first_bad_item(self):
        for value in odd_values():
            self.refuses(InvalidItem, value, RIGHTS, [("app", []), value, None], FUNCTIONS)

    def test_bad_items(self):
        for value in [
            ("a",), ("a", [], []), ["a", []], ("a", ()), ("a", ("read",)), ("a", "read"), ("a", None),
            ("a", {"read": 1}), ("A", []), ("", []), (None, []), (True, []), (("a",), []), ("a", ["none"]),
            ("a", ["read", "read"]), ("a", ["read", "write", "read"]), ("a", ["read", None]), ("a", [True]),
            ("a", [["read"]]), ("a", [("read",)]), ("a", ["app"]), ("a", deep_list(29)), ("a", ["read"] * 1000),
        ]:
            self.refuses(InvalidItem, value, RIGHTS, [("app", ["read"]), value], FUNCTIONS)

    def test_name_of_one_ahead(self):
        again = ("app", ["write"])
        self.refuses(InvalidItem, again, RIGHTS, [("app", ["read"]), ("lib", []), again, None], FUNCTIONS)
        same = ("app", ["read"])
        self.refuses(InvalidItem, same, RIGHTS, [("app", ["read"]), same], FUNCTIONS)

    def test_bad_rights_are_seen_first(self):
        self.refuses(InvalidList, None, None, None, None)
        self.refuses(InvalidItem, "A", ["A"], None, None)
        self.refuses(InvalidList, (), RIGHTS, (), None)
        self.refuses(InvalidItem, None, RIGHTS, [None], None)
        self.refuses(InvalidList, (), RIGHTS, OWNERS, ())
        self.refuses(InvalidItem, None, RIGHTS, OWNERS, [None])


class TestRefusedFunctions(Refusals):
    def test_no_list(self):
        for value in odd_values() + [tuple(FUNCTIONS), {"f": []}]:
            if not isinstance(value, list):
                self.refuses(InvalidList, value, RIGHTS, OWNERS, value)

    def test_too_few_or_many(self):
        for value in ([], [(name, "app", []) for name in "abcdefg"], [None] * 7):
            self.refuses(InvalidList, value, RIGHTS, OWNERS, value)

    def test_first_bad_item(self):
        for value in odd_values():
            self.refuses(InvalidItem, value, RIGHTS, OWNERS, [("f", "app", []), value, None])

    def test_bad_items(self):
        for value in [
            ("a", "app"), ("a", "app", [], []), ["a", "app", []], ("A", "app", []), ("", "app", []), (None, "app", []),
            (["a"], "app", []), ("a", "none", []), ("a", "read", []), ("a", None, []), ("a", ["app"], []),
            ("a", ("app",), []), ("a", ("app", ["read"]), []), ("a", "app", ()), ("a", "app", None),
            ("a", "app", {}), ("a", "app", "back"), ("a", "app", ("back",)), ("a", True, []), (True, "app", []),
        ]:
            self.refuses(InvalidItem, value, RIGHTS, OWNERS, [("f", "app", []), value])

    def test_name_of_one_ahead(self):
        again = ("f", "lib", [("back",)])
        self.refuses(InvalidItem, again, RIGHTS, OWNERS, [("f", "app", []), ("g", "app", []), again, None])

    def test_steps_of_every_kind_where_none_fits(self):
        for value in odd_values():
            self.refuses_step(value)
            if not isinstance(value, list):
                self.refuses_body(value)

    def test_bad_steps(self):
        for step in [
            ("call",), ("call", "main", "save"), ("call", "none"), ("call", "read"), ("call", "app"), ("call", None),
            ("call", ["main"]), ("call", ("main",)), ("call", True), ["call", "main"], ("Call", "main"),
            ("tail",), ("tail", "main", "save"), ("tail", "none"), ("tail", 0), ("tail", {}),
            ("check",), ("check", "none"), ("check", "main"), ("check", "read", "write"), ("check", ["read"]),
            ("check", RIGHTS), ("check", None), ("back", "main"), ("back", None), ("back", []), ("go", "main"),
            ("either",), ("either", []), ("either", [], [], []), ("either", (), []), ("either", [], ()),
            ("either", None, []), ("either", True, []), ("either", [], {}), ("loop",), ("loop", [], []),
            ("loop", ()), ("loop", None), ("loop", True, []), ("loop", ("back",)), ("block", []), ("block", True),
            ("block", 1, []), ("block", 0, []), ("block", None, []), ("block", "marked", []), ("block", True, ()),
            ("block", [], True), ("block", True, [], []), ("block", True, None), (None, "main"), (["call"], "main"),
            (True,), ((),), ("end", "main"), ("fail", "read"),
        ]:
            self.refuses_step(step)

    def test_no_tail_within_a_marked_block(self):
        tail = ("tail", "main")
        for body in [
            [("block", True, [tail])],
            [("block", True, [("back",), ("block", False, [tail])])],
            [("block", False, [("block", True, [("loop", [tail])])])],
            [("loop", [("block", True, [("either", [], [("block", False, [("loop", [tail])])])])])],
            [("block", True, nested(tail, 11))],
        ]:
            self.refuses_body(body)
        for body in [
            [("block", False, [tail])],
            [("block", True, []), tail],
            [("block", False, [("block", True, []), ("loop", [tail])])],
            [("loop", [("either", [("block", True, [("call", "main")])], [("block", False, [tail])])])],
            nested(tail, 12),
        ]:
            item = ("f", "app", body)
            self.assertEqual(Program(RIGHTS, OWNERS, FUNCTIONS + [item]).functions()[2], item)

    def test_what_counts_as_a_function_for_its_name(self):
        caller = ("f", "app", [("call", "g"), ("loop", [("tail", "g")])])
        for other in [("g", None, None), ("g", "none", []), ("g", "app", ()), ("g", [], [None])]:
            self.refuses(InvalidItem, other, RIGHTS, OWNERS, [caller, other])
        for other in [("g", "app"), ("g", "app", [], []), ["g", "app", []], "g", None, ("g",)]:
            self.refuses(InvalidItem, caller, RIGHTS, OWNERS, [caller, other])
        for name in ["G", "", None, ["g"], True]:
            caller = ("f", "app", [("call", name)])
            self.refuses(InvalidItem, caller, RIGHTS, OWNERS, [caller, (name, "app", [])])

    def test_twice_the_same_name_counts_for_those_ahead(self):
        again = ("g", "app", [])
        functions = [("f", "app", [("call", "g")]), ("g", "app", []), again]
        self.refuses(InvalidItem, again, RIGHTS, OWNERS, functions)


if __name__ == "__main__":
    unittest.main()
