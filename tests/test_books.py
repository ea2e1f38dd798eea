"""Promises [50] to [53]."""

import unittest

from callersrights.books import book_of, idle_rights, least_book, met_by, needless, with_book
from callersrights.checks import first_fail
from callersrights.errors import InvalidItem, InvalidList, InvalidPlace, InvalidProgram, UnknownName
from callersrights.marks import first_unlike
from callersrights.programs import Program, places
from callersrights.runs import is_run, walk_of
from fixpoint import Fixpoint, Owners, Rights
from reference import Explored, first_difference
from samples import STORE_FUNCTIONS, Case, books, choices, dense_program, lacks, odd_values, one_function
from samples import open_program, size, some_program, store, two_functions

STORE_BOOK = [("app", ["read"]), ("lib", ["read", "write"])]


class TestBooks(Case):
    def test_book_of(self):
        self.assertEqual(book_of(store()), STORE_BOOK)
        self.assertEqual(book_of(program=store()), STORE_BOOK)
        self.assertEqual(book_of(one_function([], owned=())), [("app", [])])

    def test_in_the_order_of_the_rights(self):
        owners = [("z", ["a", "b"]), ("y", ["b", "c", "a"]), ("x", ["c", "a"])]
        program = Program(["c", "a", "b"], owners, [("f", "y", [])])
        self.assertEqual(book_of(program), [("z", ["a", "b"]), ("y", ["c", "a", "b"]), ("x", ["c", "a"])])
        self.assertEqual(with_book(program, book_of(program)).owners(), book_of(program))
        self.assertEqual(program.owners(), owners)

    def test_with_book(self):
        for book in books(store()):
            made = with_book(store(), book)
            self.assertEqual(made, Program(["read", "write"], book, STORE_FUNCTIONS))
            self.assertEqual(book_of(made), book)
        made = with_book(program=store(), book=STORE_BOOK)
        self.assertEqual(made, store())

    def test_a_book_is_copied(self):
        book = [("app", ["read"]), ("lib", [])]
        made = with_book(store(), book)
        book[1][1].append("read")
        book.append(("x", []))
        self.assertEqual(made.owners(), [("app", ["read"]), ("lib", [])])

    def test_refused_lists(self):
        for book in [[], STORE_BOOK[:1], STORE_BOOK + STORE_BOOK[:1], tuple(STORE_BOOK), dict(STORE_BOOK)]:
            self.refuses(InvalidList, book, with_book, store(), book)
        for book in odd_values():
            if not isinstance(book, list) or len(book) != 2:
                self.refuses(InvalidList, book, with_book, store(), book)

    def test_refused_items(self):
        for wrong in [
            ("lib", ["read"]), ("App", ["read"]), ("app", ["write", "read"]), ("app", ["read", "read"]),
            ("app", ["read", "other"]), ("app", ("read",)), ("app", "read"), ("app", None), ("app", [None]),
            ("app", [["read"]]), ("app", {}), ("app",), ("app", ["read"], 0), ["app", ["read"]], (None, ["read"]),
            (["app"], ["read"]), ("app", ["read", "write", "read"]), ("app", [True]),
        ] + odd_values():
            book = [wrong, ("lib", ["read"])]
            self.refuses(InvalidItem, wrong, with_book, store(), book)

    def test_the_first_refused_item(self):
        one, two = ("app", ["write", "read"]), ("lib", ["write", "read"])
        self.refuses(InvalidItem, one, with_book, store(), [one, two])
        self.refuses(InvalidItem, two, with_book, store(), [("app", []), two])
        turned = [("lib", []), ("app", [])]
        self.refuses(InvalidItem, turned[0], with_book, store(), turned)
        twice = [("app", []), ("app", [])]
        with self.assertRaises(InvalidItem) as caught:
            with_book(store(), twice)
        self.assertIs(caught.exception.value, twice[1])

    def test_refused_programs(self):
        for value in odd_values():
            if not isinstance(value, Program):
                for called in (book_of, least_book, idle_rights):
                    self.refuses(InvalidProgram, value, called, value)
                self.refuses(InvalidProgram, value, with_book, value, None)
                self.refuses(InvalidProgram, value, met_by, value, None, None)
                self.refuses(InvalidProgram, value, needless, value, None)


class TestLeastBook(Case):
    def test_the_documents_example(self):
        self.assertEqual(least_book(store()), [("app", ["read", "write"]), ("lib", ["write"])])
        self.assertEqual(least_book(program=store()), [("app", ["read", "write"]), ("lib", ["write"])])

    def test_nothing_needed(self):
        self.assertEqual(least_book(one_function([("call", "f"), ("check", "read")])), [("app", [])])
        self.assertEqual(least_book(two_functions([], [("check", "read")])), [("app", []), ("lib", [])])

    def test_checks_behind_others_that_fail_now(self):
        program = one_function([("check", "write"), ("check", "read")], owned=())
        self.assertEqual(least_book(program), [("app", ["read", "write"])])

    def test_marked_blocks(self):
        program = two_functions([("call", "g")], [("block", True, [("check", "write")])])
        self.assertEqual(least_book(program), [("app", []), ("lib", ["write"])])
        program = two_functions([("block", True, [("call", "g")])], [("check", "write")])
        self.assertEqual(least_book(program), [("app", ["write"]), ("lib", ["write"])])

    def test_tail_calls(self):
        program = two_functions([("tail", "g")], [("check", "write")])
        self.assertEqual(least_book(program), [("app", []), ("lib", ["write"])])

    def test_recursion(self):
        body = [("either", [("call", "g")], []), ("block", True, [("check", "read")])]
        program = two_functions(body, [("either", [("call", "f")], [("check", "write")])])
        self.assertEqual(least_book(program), [("app", ["read", "write"]), ("lib", ["write"])])

    def test_an_owner_without_functions(self):
        program = Program(["a"], [("x", ["a"]), ("y", ["a"])], [("f", "y", [("check", "a")])])
        self.assertEqual(least_book(program), [("x", []), ("y", ["a"])])

    def test_beside_all_books(self):
        for seed in range(60):
            make = open_program if seed % 2 else dense_program
            program = make(seed, rights=2, owners=2, functions=3)
            least = least_book(program)
            for book in books(program):
                quiet = Fixpoint(Rights(with_book(program, book))).shortest(
                    lambda word, place, found, right: word == "check" and right not in found) is None
                covers = all(set(few) <= set(many) for (_, few), (_, many) in zip(least, book))
                if book == least:
                    self.assertTrue(quiet)
                self.assertLessEqual(quiet, covers)

    def test_with_it_nothing_fails_with_less_something_does(self):
        for seed in range(300):
            program = some_program(seed)
            least = least_book(program)
            self.assertEqual([name for name, _ in least], [name for name, _ in program.owners()])
            self.assertIsNone(first_fail(with_book(program, least)))
            for owner, rights in least:
                self.assertEqual(rights, [right for right in program.rights() if right in rights])
                for right in rights:
                    self.assertIsNotNone(first_fail(with_book(program, lacks(least, owner, right))))


class TestMetBy(Case):
    def test_the_documents_example(self):
        run = [("call", ("main", (0,))), ("check", ("save", (0, 0)))]
        self.assertEqual(met_by(store(), "lib", "write"), run)
        self.assertEqual(met_by(program=store(), owner="lib", right="write"), run)
        self.assertIsNone(met_by(store(), "app", "write"))
        self.assertIsNone(met_by(store(), "lib", "read"))

    def test_a_frame_below(self):
        program = two_functions([("call", "g")], [("check", "read")])
        run = [("call", ("f", (0,))), ("check", ("g", (0,)))]
        self.assertEqual(met_by(program, "app", "read"), run)
        self.assertEqual(met_by(program, "lib", "read"), run)
        program = two_functions([("call", "g")], [("block", True, [("check", "read")])])
        self.assertIsNone(met_by(program, "app", "read"))

    def test_a_frame_below_a_marked_one(self):
        functions = [("a", "x", [("call", "b")]), ("b", "y", [("block", True, [("call", "c")])]),
                     ("c", "z", [("check", "r")])]
        program = Program(["r"], [("x", ["r"]), ("y", ["r"]), ("z", ["r"])], functions)
        self.assertIsNone(met_by(program, "x", "r"))
        self.assertEqual(size(met_by(program, "y", "r")), 3)
        self.assertEqual(size(met_by(program, "z", "r")), 3)

    def test_only_checks_that_pass(self):
        program = two_functions([("call", "g")], [("check", "write")])
        self.assertIsNone(met_by(program, "lib", "write"))

    def test_a_longer_run_for_the_other_owner(self):
        body = [("either", [("check", "read")], [("call", "g"), ("check", "read")])]
        program = two_functions(body, [("check", "write"), ("either", [("check", "read")], [])], ["read", "write"])
        self.assertEqual(met_by(program, "app", "read"), [("check", ("f", (0, 0, 0)))])
        self.assertEqual(size(met_by(program, "lib", "read")), 3)
        self.assertEqual(size(met_by(program, "app", "write")), 2)

    def test_owners_with_equal_rights_are_apart(self):
        functions = [("a", "x", [("either", [("call", "b")], [("call", "c")])]),
                     ("b", "y", [("call", "c")]), ("c", "z", [("check", "r")])]
        program = Program(["r"], [("x", ["r"]), ("y", ["r"]), ("z", ["r"])], functions)
        self.assertEqual(size(met_by(program, "x", "r")), 2)
        self.assertEqual(size(met_by(program, "y", "r")), 3)
        self.assertEqual(size(met_by(program, "z", "r")), 2)

    def test_refusals(self):
        for value in odd_values() + ["main", "write", "App"]:
            self.refuses(UnknownName, value, met_by, store(), value, "read")
            self.refuses(UnknownName, value, met_by, store(), value, None)
        for value in [value for value in odd_values() if repr(value) != "'read'"] + ["main", "app", "Read"]:
            self.refuses(UnknownName, value, met_by, store(), "app", value)

    def test_beside_other_ways(self):
        for seed in range(150):
            program = some_program(seed)
            explored = Explored(program, 6)
            reference = explored.reference
            fixpoint = Fixpoint(Owners(program))
            for owner, _ in program.owners():
                for right in program.rights():
                    run = met_by(program, owner, right)
                    self.assertEqual(size(run), fixpoint.shortest(lambda word, place, found, target: (
                        word == "check" and target == right and owner in found
                        and fixpoint.handing.passes(found, right))))

                    def wanted(told, stack, _):
                        if told[-1][0] != "check":
                            return False
                        name, path = told[-1][1]
                        met = [reference.owner_of[other] for other in reference.walk(stack, path)]
                        return reference.body_at(name, path[:-1])[path[-1]][1] == right and owner in met

                    self.beside_brute(run, explored.shortest(wanted), explored.depth)
                    if run is not None:
                        self.assertTrue(is_run(program, run))
                        self.assertEqual(run[-1][0], "check")
                        self.assertTrue(wanted(run, reference.stack_ahead(run), None))
                        met = [reference.owner_of[name] for name in walk_of(program, run)]
                        self.assertIn(owner, met)


class TestIdleRights(Case):
    def test_the_documents_example(self):
        self.assertEqual(idle_rights(store()), [("lib", "read")])
        self.assertEqual(idle_rights(program=store()), [("lib", "read")])

    def test_in_order(self):
        owners = [("y", ["a", "b", "c"]), ("x", ["c", "a"])]
        program = Program(["c", "b", "a"], owners, [("f", "y", [("check", "b")])])
        self.assertEqual(idle_rights(program), [("y", "c"), ("y", "a"), ("x", "c"), ("x", "a")])
        program = Program(["c", "b", "a"], owners, [("f", "y", [])])
        self.assertEqual(idle_rights(program), [("y", "c"), ("y", "b"), ("y", "a"), ("x", "c"), ("x", "a")])
        self.assertEqual(idle_rights(one_function([], owned=())), [])

    def test_checks_that_fail_need_no_right(self):
        program = two_functions([("call", "g")], [("check", "write")])
        self.assertEqual(idle_rights(program), [("app", "read"), ("lib", "read"), ("lib", "write")])

    def test_just_where_met_by_tells_none(self):
        for seed in range(300):
            program = some_program(seed)
            wanted = []
            for owner, rights in book_of(program):
                wanted += [(owner, right) for right in rights if met_by(program, owner, right) is None]
            self.assertEqual(idle_rights(program), wanted)

    def test_taking_one_away_changes_no_run(self):
        for seed in range(60):
            program = some_program(seed)
            idle = idle_rights(program)
            for owner, rights in book_of(program):
                for right in rights:
                    less = with_book(program, lacks(book_of(program), owner, right))
                    self.assertIs(first_unlike(program, less) is None, (owner, right) in idle)
                    told = first_difference(program, less, 5, 600)
                    if (owner, right) in idle:
                        self.assertIn(told, (None, "far"))
                    else:
                        self.assertIsNotNone(told)


class TestNeedless(Case):
    def test_the_documents_example(self):
        book, run = needless(store(), ("save", (0, 0)))
        self.assertEqual(run, [("call", ("main", (0,))), ("fail", ("save", (0, 0)))])
        self.assertNotIn("write", dict(book)["lib"])
        self.assertEqual(len(needless(store(), ("save", (1, 0, 0)))[1]), 3)
        self.assertEqual(len(needless(program=store(), place=("main", (1, 0)))[1]), 4)

    def test_kinds(self):
        told = needless(store(), ("save", (0, 0)))
        self.assertIs(type(told), tuple)
        self.assertEqual([type(part) for part in told], [list, list])
        with_book(store(), told[0])

    def test_a_check_behind_the_same_one(self):
        program = one_function([("check", "read"), ("check", "read"), ("check", "write")], owned=())
        self.assertEqual(size(needless(program, ("f", (0,)))[1]), 1)
        self.assertIsNone(needless(program, ("f", (1,))))
        self.assertEqual(size(needless(program, ("f", (2,)))[1]), 3)

    def test_a_check_of_all_owners_ahead(self):
        program = two_functions([("call", "g"), ("check", "read")], [("check", "read")])
        self.assertIsNone(needless(program, ("f", (1,))))
        self.assertEqual(size(needless(program, ("g", (0,)))[1]), 2)
        program = two_functions([("call", "g"), ("check", "read")], [("block", True, [("check", "read")])])
        self.assertEqual(size(needless(program, ("f", (1,)))[1]), 4)
        program = two_functions([("check", "read"), ("call", "g")], [("check", "read"), ("check", "read")])
        book, run = needless(program, ("g", (0,)))
        self.assertEqual(size(run), 3)
        self.assertIn("read", dict(book)["app"])
        self.assertNotIn("read", dict(book)["lib"])
        self.assertIsNone(needless(program, ("g", (1,))))

    def test_a_place_that_no_run_gets_to(self):
        program = two_functions([("call", "f"), ("check", "read")], [("check", "read")])
        self.assertIsNone(needless(program, ("f", (1,))))
        self.assertIsNone(needless(program, ("g", (0,))))

    def test_the_books_of_the_program_do_not_count(self):
        functions = [("f", "x", [("check", "b"), ("check", "a")])]
        for owned in choices(["a", "b"]):
            program = Program(["a", "b"], [("x", owned)], functions)
            book, run = needless(program, ("f", (1,)))
            self.assertEqual(run, [("check", ("f", (0,))), ("fail", ("f", (1,)))])
            self.assertEqual(book, [("x", ["b"])])

    def test_refused_places(self):
        wrong = [("main", (0,)), ("main", (1,)), ("save", (0,)), ("save", (1,)), ("main", (1, False)), ("other", (0,))]
        for place in wrong + odd_values():
            self.refuses(InvalidPlace, place, needless, store(), place)

    def test_beside_all_books(self):
        told_none = 0
        for seed in range(60):
            make = dense_program if seed % 2 else open_program
            program = make(seed, rights=2, owners=2 + seed % 3 // 2, functions=3)
            shortest = {}
            for book in books(program):
                fixpoint = Fixpoint(Rights(with_book(program, book)))
                for (word, place, found, right), events in fixpoint.happens.items():
                    if word == "check" and right not in found:
                        shortest[place] = min(events, shortest.get(place, events))
            for place in places(program, "check"):
                told = needless(program, place)
                self.assertEqual(None if told is None else len(told[1]), shortest.get(place))
                told_none += told is None
                if told is not None:
                    self.assertTrue(is_run(with_book(program, told[0]), told[1]))
                    self.assertEqual(told[1][-1], ("fail", place))
        self.assertGreater(told_none, 20)


if __name__ == "__main__":
    unittest.main()
