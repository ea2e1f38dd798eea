"""Promises [75] to [77]."""

import copy
import random
import unittest

from callersrights.books import book_of, with_book
from callersrights.checks import first_fail
from callersrights.errors import InvalidItem, InvalidList, InvalidName, InvalidProgram, NothingToUndo, TakenName
from callersrights.errors import RightsError, UnknownName
from callersrights.library import Library
from callersrights.live import Live
from callersrights.marks import first_unlike
from callersrights.programs import Program
from samples import Case, dense_program, lists_in, odd_values, open_program, random_program, spoil, store, two_functions

BOOK = [("app", ["read"]), ("lib", ["read", "write"])]
NONE = [("app", []), ("lib", [])]
ALL = [("app", ["read", "write"]), ("lib", ["read", "write"])]
LEAST = [("app", ["read", "write"]), ("lib", ["write"])]


def shelf(*names):
    """A library of the document's program with the same book by some names."""
    library = Library(store())
    for name in names:
        library.put(name, BOOK)
    return library


def state(library):
    """A text of all that a library tells, but for what its books make of the runs."""
    names = library.names()
    return repr((names, [library.book_of(name) for name in names], library.log(), len(library), list(library)))


def some_book(program, chance, share):
    """A book made by chance."""
    rights = program.rights()
    return [(name, [right for right in rights if chance.random() < share]) for name, _ in program.owners()]


class LibraryCase(Case):
    def refused(self, library, error, wrong, called, *arguments):
        """The same as for all calls, and the library stays as it is."""
        before = state(library)
        self.refuses(error, wrong, called, *arguments)
        self.assertEqual(state(library), before)

    def refused_books(self, library, called, *ahead):
        """All kinds of values that are no books, in a call with some arguments ahead."""
        for value in odd_values() + [tuple(BOOK), dict(BOOK), BOOK[:1], BOOK + BOOK[:1], [None] * 3]:
            if not isinstance(value, list) or len(value) != 2:
                self.refused(library, InvalidList, value, called, *ahead, value)
        for value in odd_values() + [
            ("app",), ("app", [], []), ["app", []], ("lib", []), ("none", []), ("app", ()), ("app", ("read",)),
            ("app", None), ("app", ["none"]), ("app", ["write", "read"]), ("app", ["read", "read"]), ("app", [None]),
            ("app", [["read"]]), ("app", "read"), (["app"], []), ("app", {"read": 1}), ("app", ["read", "write", "a"]),
        ]:
            self.refused(library, InvalidItem, value, called, *ahead, [value, None])
        for value in odd_values() + [("app", []), ("lib",), ("lib", ["write", "read"])]:
            self.refused(library, InvalidItem, value, called, *ahead, [("app", ["read"]), value])


class TestSteps(LibraryCase):
    def test_a_new_library(self):
        library = Library(program=store())
        self.assertEqual((library.names(), library.log(), library.quiet(), library.alike(BOOK)), ([], [], [], []))
        self.assertEqual((len(library), list(library), "a" in library), (0, [], False))
        self.assertRaises(NothingToUndo, library.back)

    def test_put(self):
        library = Library(store())
        self.assertIsNone(library.put("b", BOOK))
        self.assertIsNone(library.put(book=NONE, name="a"))
        self.assertEqual(library.names(), ["a", "b"])
        self.assertEqual(library.book_of("b"), BOOK)
        self.assertEqual(library.book_of(name="a"), NONE)
        self.assertEqual(library.log(), [("put", "b"), ("put", "a")])

    def test_drop(self):
        library = shelf("c", "a", "b")
        self.assertIsNone(library.drop("b"))
        self.assertEqual(library.names(), ["a", "c"])
        self.assertIsNone(library.drop(name="a"))
        self.assertEqual(library.names(), ["c"])
        self.refused(library, UnknownName, "a", library.drop, "a")
        self.refused(library, UnknownName, "a", library.book_of, "a")
        library.put("a", NONE)
        self.assertEqual(library.book_of("a"), NONE)

    def test_change(self):
        library = shelf("c", "a")
        self.assertIsNone(library.change("c", NONE))
        self.assertEqual((library.book_of("c"), library.book_of("a")), (NONE, BOOK))
        self.assertIsNone(library.change(book=ALL, name="a"))
        self.assertEqual((library.book_of("c"), library.book_of("a")), (NONE, ALL))
        self.assertEqual(library.names(), ["a", "c"])
        self.assertEqual(library.log(), [("put", "c"), ("put", "a"), ("change", "c"), ("change", "a")])

    def test_refused_programs(self):
        for value in odd_values() + [Live(store()), Library(store()), BOOK]:
            if not isinstance(value, Program):
                self.refuses(InvalidProgram, value, Library, value)

    def test_refused_names_to_put(self):
        library = shelf("a")
        for value in odd_values() + ["A", "a1", "a b", "", "abcdefghi", "\u00e9", ["a"], ("a",), ("put", "a")]:
            if value not in ("f", "read", "call"):
                for book in (BOOK, None, NONE[:1]):
                    self.refused(library, InvalidName, value, library.put, value, book)

    def test_names_of_every_length(self):
        library = Library(store())
        for name in ("a", "z", "abcdefgh", "zzzzzzzz", "put"):
            library.put(name, BOOK)
        self.assertEqual(library.names(), ["a", "abcdefgh", "put", "z", "zzzzzzzz"])

    def test_taken_names(self):
        library = shelf("shelf", "a")
        for name in ("shelf", "a"):
            again = "".join(list(name))
            for book in (BOOK, None, [], [None, None]):
                self.refused(library, TakenName, again, library.put, again, book)
        library.drop("a")
        library.put("a", NONE)
        self.refused(library, TakenName, "a", library.put, "a", NONE)

    def test_values_that_are_no_kept_names(self):
        library = shelf("a", "shelf")
        for value in odd_values() + ["app", "b", "aa", "A", ["a"], ("a",), {"a": BOOK}, 0, 1, 2, 97, BOOK, library]:
            self.refused(library, UnknownName, value, library.drop, value)
            self.refused(library, UnknownName, value, library.book_of, value)
            for book in (BOOK, None, []):
                self.refused(library, UnknownName, value, library.change, value, book)
            self.assertIs(value in library, False)
            self.assertIs(value not in library, True)
        self.assertIs("a" in library, True)
        self.assertIs("".join(["she", "lf"]) in library, True)

    def test_refused_books(self):
        library = shelf("a")
        self.refused_books(library, library.put, "b")
        self.refused_books(library, library.change, "a")
        self.refused_books(library, library.alike)

    def test_lists_changed_behind_the_call(self):
        library = Library(store())
        book = copy.deepcopy(BOOK)
        library.put("a", book)
        spoil(book)
        self.assertEqual(library.book_of("a"), BOOK)
        spoil(library.book_of("a"))
        spoil([library.names(), library.log(), library.quiet(), library.alike(BOOK), list(library)])
        self.assertEqual((library.names(), library.log(), library.book_of("a")), (["a"], [("put", "a")], BOOK))
        book = copy.deepcopy(NONE)
        library.change("a", book)
        spoil(book)
        self.assertEqual(library.book_of("a"), NONE)
        spoil(library.book_of("a"))
        library.back()
        self.assertEqual(library.book_of("a"), BOOK)

    def test_one_book_by_two_names(self):
        library = Library(store())
        rights = ["read"]
        book = [("app", rights), ("lib", rights)]
        library.put("a", book)
        library.put("b", book)
        told = [library.book_of("a"), library.book_of("b"), library.book_of("a")]
        found = lists_in(told)
        self.assertEqual(len({id(part) for part in found}), len(found))
        spoil(told[0])
        self.assertEqual(library.book_of("b"), [("app", ["read"]), ("lib", ["read"])])

    def test_no_argument_is_changed(self):
        book, program = copy.deepcopy(BOOK), store()
        library = Library(program)
        library.put("a", book)
        library.change("a", book)
        library.alike(book)
        self.assertEqual((book, program), (BOOK, store()))

    def test_eight_books_and_somewhat_more(self):
        library = shelf(*"hgfedcba")
        self.assertEqual((library.names(), len(library)), (list("abcdefgh"), 8))
        library.put("i", NONE)
        self.assertEqual((library.names(), len(library)), (list("abcdefghi"), 9))


class TestNamesQuietAlike(LibraryCase):
    def test_quiet(self):
        library = Library(store())
        for name, book in [("least", LEAST), ("full", ALL), ("own", BOOK), ("none", NONE)]:
            library.put(name, book)
        self.assertEqual(library.quiet(), ["full", "least"])
        for owner in (0, 1):
            for right in LEAST[owner][1]:
                book = copy.deepcopy(LEAST)
                book[owner][1].remove(right)
                library.change("least", book)
                self.assertEqual(library.quiet(), ["full"])
        library.change("least", LEAST)
        library.drop("full")
        self.assertEqual(library.quiet(), ["least"])
        library.back()
        self.assertEqual(library.quiet(), ["full", "least"])

    def test_alike(self):
        library = Library(store())
        books = {"z": BOOK, "b": [("app", ["read"]), ("lib", ["write"])], "c": LEAST, "a": ALL, "none": NONE,
                 "write": [("app", ["read", "write"]), ("lib", [])]}
        for name, book in books.items():
            library.put(name, book)
        self.assertEqual(library.alike(BOOK), ["b", "z"])
        self.assertEqual(library.alike(book=books["b"]), ["b", "z"])
        self.assertEqual(library.alike(ALL), ["a", "c"])
        self.assertEqual(library.alike(NONE), ["none", "write"])
        self.assertEqual(library.alike([("app", ["write"]), ("lib", ["write"])]), [])
        library.drop("a")
        self.assertEqual(library.alike(ALL), ["c"])
        library.change("c", BOOK)
        self.assertEqual(library.alike(ALL), [])
        self.assertEqual(library.alike(BOOK), ["b", "c", "z"])
        library.back()
        library.back()
        self.assertEqual(library.alike(ALL), ["a", "c"])

    def test_the_programs_own_book_does_not_matter(self):
        quiet = with_book(store(), ALL)
        library = Library(quiet)
        library.put("none", NONE)
        library.put("all", ALL)
        self.assertEqual(library.quiet(), ["all"])
        self.assertEqual(library.alike(book_of(quiet)), ["all"])

    def test_asked_in_any_order(self):
        for seed in range(40):
            chance = random.Random(seed)
            program = (random_program, dense_program, open_program)[seed % 3](60000 + seed)
            library = Library(program)
            kept = {}
            for _ in range(12):
                self.step_by_chance(library, kept, chance)
                book = some_book(program, chance, 0.8)
                asked = ["names", "quiet", "alike", "quiet", "alike", "names"]
                chance.shuffle(asked)
                for each in (library, library.copy()):
                    for word in asked[:3]:
                        self.ask(each, word, book, kept)

    def step_by_chance(self, library, kept, chance):
        """Do a step by chance, if it can be done, here and in a dict."""
        name = chance.choice("abcd")
        book = some_book(Program(*parts(library)), chance, 0.8)
        try:
            word = chance.choice(["put", "put", "drop", "change"])
            if word == "drop":
                library.drop(name)
                del kept[name]
            else:
                getattr(library, word)(name, book)
                kept[name] = book
        except (TakenName, UnknownName):
            pass

    def ask(self, library, word, book, kept):
        program = Program(*parts(library))
        made = {name: with_book(program, kept[name]) for name in sorted(kept)}
        if word == "names":
            self.assertEqual(library.names(), list(made))
        elif word == "quiet":
            self.assertEqual(library.quiet(), [name for name in made if first_fail(made[name]) is None])
        else:
            other = with_book(program, book)
            self.assertEqual(library.alike(book), [name for name in made if first_unlike(made[name], other) is None])
            for name in kept:
                self.assertIn(name, library.alike(kept[name]))

    def test_no_run_is_spelled_out(self):
        library = Library(far_program())
        both, less = [("x", ["r", "s"]), ("z", ["r", "s"])], [("x", ["r"]), ("z", ["r", "s"])]
        for name in "abcdefgh":
            library.put(name, less)
        self.assertEqual(library.quiet(), [])
        self.assertEqual(library.alike(less), list("abcdefgh"))
        self.assertEqual(library.alike(both), [])
        library.change("c", both)
        self.assertEqual(library.quiet(), ["c"])


def far_program():
    """A program that fails only behind more events than there could ever be."""
    functions = [
        ("main", "x", [("call", "a")] * 10 + [("check", "s")]),
        ("a", "z", [("call", "b")] * 14), ("b", "z", [("call", "c")] * 14), ("c", "z", [("call", "e")] * 14),
        ("e", "z", [("either", [("check", "s")], [("block", True, [("call", "a")] * 10)])]),
    ]
    return Program(["r", "s"], [("x", ["r"]), ("z", ["r", "s"])], functions)


def parts(library):
    """The parts of the program of a library, looked up where it keeps it."""
    program = library._program
    return program.rights(), program.owners(), program.functions()


class TestAsAWhole(LibraryCase):
    def test_len(self):
        library = Library(store())
        counts = []
        for deed in (lambda: library.put("b", BOOK), lambda: library.put("a", BOOK), lambda: library.change("a", NONE),
                     lambda: library.drop("b"), library.back, library.back, library.back, library.back):
            deed()
            counts.append(len(library))
        self.assertEqual(counts, [1, 2, 2, 1, 2, 2, 1, 0])

    def test_iteration_in_order(self):
        library = shelf("b", "zz", "a", "ab")
        self.assertEqual(list(library), ["a", "ab", "b", "zz"])
        self.assertEqual([name for name in library], library.names())
        self.assertEqual(list(library), list(library))
        self.assertEqual(sorted(library), library.names())

    def test_a_library_changed_in_the_loop(self):
        library = shelf("b", "c", "d")
        met = []
        for name in library:
            met.append(name)
            library.drop(name)
        self.assertEqual((met, library.names()), (["b", "c", "d"], []))
        library = shelf("b", "c", "d")
        met = []
        for name in library:
            met.append(name)
            if name == "b":
                library.put("a", BOOK)
                library.put("bb", BOOK)
                library.put("e", BOOK)
                library.drop("c")
        self.assertEqual(met, ["b", "c", "d"])
        self.assertEqual(library.names(), ["a", "b", "bb", "d", "e"])
        library = shelf("b", "c", "d")
        met = []
        for name in library:
            met.append(name)
            library.back()
        self.assertEqual((met, library.names()), (["b", "c", "d"], []))
        self.assertRaises(NothingToUndo, library.back)

    def test_loops_in_loops(self):
        library = shelf("a", "b")
        met = []
        for name in library:
            for other in library:
                met.append((name, other))
                if other == "a" and name == "a":
                    library.put("c", BOOK)
        self.assertEqual(met, [("a", "a"), ("a", "b"), ("b", "a"), ("b", "b"), ("b", "c")])

    def test_a_loop_that_has_begun(self):
        library = shelf("a", "b")
        left = iter(library)
        library.put("aa", BOOK)
        library.drop("b")
        self.assertEqual(list(left), ["a", "b"])

    def test_equality(self):
        library = shelf("a", "b")
        other = Library(store())
        self.assertIs(library == library, True)
        self.assertIs(library == other, False)
        other.put("b", NONE)
        other.put("c", BOOK)
        other.put("a", copy.deepcopy(BOOK))
        self.assertIs(library == other, False)
        other.drop("c")
        self.assertIs(library == other, False)
        self.assertIs(library != other, True)
        other.change("b", BOOK)
        self.assertIs(library == other, True)
        self.assertIs(other == library, True)
        self.assertIs(library != other, False)
        self.assertNotEqual(library.log(), other.log())
        other.drop("a")
        self.assertIs(library == other, False)

    def test_equality_of_names_books_and_programs(self):
        self.assertIs(shelf("a") == shelf("b"), False)
        self.assertIs(shelf("a") == shelf("a", "b"), False)
        self.assertIs(Library(store()) == Library(store()), True)
        self.assertIs(Library(store()) == Library(with_book(store(), NONE)), False)
        self.assertIs(Library(store()) == Library(two_functions([], [])), False)
        library, other = Library(store()), Library(with_book(store(), NONE))
        library.put("a", BOOK)
        other.put("a", BOOK)
        self.assertIs(library == other, False)
        self.assertIs(library != other, True)

    def test_other_objects(self):
        library = Library(store())
        others = [value for value in odd_values() if not isinstance(value, Library)]
        for other in others + [store(), Live(store()), [], {}, library.names(), RightsError("no")]:
            self.assertIs(library == other, False)
            self.assertIs(other == library, False)
            self.assertIs(library != other, True)
            self.assertIs(other != library, True)


class TestBack(LibraryCase):
    def test_behind_each_kind_of_step(self):
        library = shelf("a")
        before = state(library)
        for step in (lambda: library.put("b", NONE), lambda: library.drop("a"), lambda: library.change("a", NONE)):
            step()
            self.assertNotEqual(state(library), before)
            self.assertIsNone(library.back())
            self.assertEqual(state(library), before)

    def test_back_to_the_beginning(self):
        library = Library(store())
        steps = [("put", "b", BOOK), ("put", "a", NONE), ("change", "b", ALL), ("drop", "a"), ("put", "a", ALL),
                 ("drop", "b"), ("change", "a", BOOK), ("drop", "a"), ("put", "c", NONE)]
        states = [state(library)]
        for word, *arguments in steps:
            getattr(library, word)(*arguments)
            states.append(state(library))
        self.assertEqual(library.log(), [step[:2] for step in steps])
        self.assertEqual(library.names(), ["c"])
        for left in range(len(steps), 0, -1):
            self.assertEqual(state(library), states[left])
            library.back()
        self.assertEqual(state(library), states[0])
        self.assertRaises(NothingToUndo, library.back)
        self.assertEqual(state(library), states[0])

    def test_refused_steps_are_not_undone(self):
        library = shelf("a")
        self.assertRaises(TakenName, library.put, "a", BOOK)
        self.assertRaises(InvalidName, library.put, "A", BOOK)
        self.assertRaises(InvalidList, library.put, "b", None)
        self.assertRaises(UnknownName, library.drop, "b")
        self.assertRaises(InvalidItem, library.change, "a", [None, None])
        self.assertRaises(InvalidItem, library.alike, [None, None])
        self.assertEqual(library.log(), [("put", "a")])
        library.back()
        self.assertEqual((library.names(), library.log()), ([], []))
        self.assertRaises(NothingToUndo, library.back)

    def test_further_steps_behind_back(self):
        library = shelf("a", "b")
        library.back()
        library.change("a", NONE)
        self.assertEqual(library.log(), [("put", "a"), ("change", "a")])
        library.back()
        self.assertEqual(library.book_of("a"), BOOK)
        library.back()
        self.assertEqual(library.names(), [])

    def test_a_change_to_an_equal_book_is_a_step(self):
        library = shelf("a")
        library.change("a", BOOK)
        self.assertEqual(library.log(), [("put", "a"), ("change", "a")])
        library.back()
        self.assertEqual(library.log(), [("put", "a")])
        self.assertEqual(library.names(), ["a"])

    def test_log_is_a_new_list_of_tuples(self):
        library = shelf("a")
        self.assertEqual(repr(library.log()), repr([("put", "a")]))
        self.assertIsNot(library.log(), library.log())

    def test_many_steps(self):
        library = Library(store())
        for _ in range(100):
            library.put("a", BOOK)
            library.change("a", NONE)
            library.drop("a")
        self.assertEqual(len(library.log()), 300)
        for _ in range(300):
            library.back()
        self.assertRaises(NothingToUndo, library.back)


class TestCopies(LibraryCase):
    def test_copies_go_their_own_ways(self):
        library = shelf("a", "b")
        twin = library.copy()
        self.assertIsInstance(twin, Library)
        self.assertIsNot(twin, library)
        self.assertTrue(twin == library)
        self.assertEqual(state(twin), state(library))
        library.drop("a")
        self.assertEqual(twin.names(), ["a", "b"])
        self.assertEqual(twin.log(), [("put", "a"), ("put", "b")])
        twin.change("b", NONE)
        self.assertEqual(library.book_of("b"), BOOK)
        twin.put("c", ALL)
        self.assertEqual(library.names(), ["b"])
        for left in (["a", "b"], ["a", "b"], ["a"], []):
            twin.back()
            self.assertEqual(twin.names(), left)
        self.assertRaises(NothingToUndo, twin.back)
        self.assertEqual(library.log(), [("put", "a"), ("put", "b"), ("drop", "a")])
        library.back()
        self.assertEqual(library.names(), ["a", "b"])

    def test_copies_of_copies(self):
        library = shelf("a")
        twin = library.copy().copy()
        library.back()
        self.assertEqual(twin.names(), ["a"])
        twin.back()
        self.assertEqual((twin.names(), twin.log()), ([], []))
        self.assertRaises(NothingToUndo, twin.back)

    def test_libraries_of_one_program(self):
        program = store()
        one, two = Library(program), Library(program)
        one.put("a", BOOK)
        self.assertEqual((two.names(), two.log()), ([], []))
        self.assertEqual(program, store())


if __name__ == "__main__":
    unittest.main()
