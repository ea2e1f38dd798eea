"""Promise [3], with the limits of [55], [56], [66], [71], [75] and [76]: all within seconds."""

import time
import unittest

from callersrights.books import book_of, idle_rights, least_book, met_by, needless, with_book
from callersrights.checks import first_fail, last_end, outcome
from callersrights.library import Library
from callersrights.live import Live
from callersrights.marks import first_unlike, forgotten, spare_marks
from callersrights.programs import Program, places
from callersrights.runs import is_run
from callersrights.standings import can_end, held, is_table, run_to, table
from callersrights.strangers import passes_over, with_stranger
from callersrights.texts import read_program, text_of
from samples import choices, dense_program, one_function

NAMES = ["a", "b", "c", "d", "e", "f"]
RIGHTS = ["r", "s", "t", "u", "v"]
SECONDS = 4


def whole_program(rights, marks, body_of):
    """A program of 6 functions and 5 owners, each of whom lacks another right, if there are enough."""
    some = RIGHTS[:rights]
    owners = [(name, [right for at, right in enumerate(some) if at != number]) for number, name in enumerate("lmnop")]
    functions = [(name, owners[at % 5][0], body_of(at, some, marks)) for at, name in enumerate(NAMES)]
    return Program(some, owners, functions)


def other(at, by):
    return NAMES[(at + by) % 6]


def wide(at, rights, marks):
    """A body from each of whose steps all can come next."""
    loops = [("loop", [("call", other(at, by))]) for by in (1, 2, 4)]
    marked = ("block", marks, [("loop", [("call", other(at, 3))]), ("loop", [("check", rights[at % len(rights)])])])
    return [("loop", [*loops, ("either", [("tail", other(at, 5))], []), marked])]


def deep(at, rights, marks):
    """A body in which much has to end."""
    inner = [("block", marks, [("call", other(at, 2)), ("check", rights[0])]), ("check", rights[-1])]
    return [("either", [("loop", [("either", [("call", other(at, 1))], inner[:1])])], [("tail", other(at, 1))]),
            ("block", False, [("either", [("call", other(at, 3))], inner[1:])]), ("call", other(at, 4))]


def marked(at, rights, marks):
    """A body with two marked blocks."""
    return [("loop", [("block", True, [("loop", [("call", other(at, 1))])]),
                      ("block", True, [("either", [("call", other(at, 2))], [("check", rights[at % len(rights)])])]),
                      ("either", [("call", other(at, 3))], [("tail", other(at, 4))])]),
            ("either", [("check", rights[0])], [])]


def without_f(body):
    """A body with calls of a for those of f."""
    made = []
    for step in body:
        parts = [without_f(part) if isinstance(part, list) else "a" if part == "f" else part for part in step]
        made.append(tuple(parts))
    return made


class TestLimits(unittest.TestCase):
    def within(self, called, *arguments):
        start = time.perf_counter()
        told = called(*arguments)
        self.assertLess(time.perf_counter() - start, SECONDS, called)
        return told

    def go_through(self, program):
        told = self.within(table, program)
        self.assertTrue(self.within(is_table, program, told))
        for name, _, _ in program.functions():
            self.within(can_end, program, name, program.rights()[1:])
        for word in ("call", "tail", "check"):
            for place in places(program, word)[-2:]:
                self.within(held, program, place)
                for standing in choices(program.rights())[::5]:
                    run = self.within(run_to, program, place, standing)
                    self.assertTrue(run is None or len(run) > 300 or is_run(program, run))
        for place in places(program, "check")[-2:]:
            for called in (outcome, needless, forgotten):
                self.within(called, program, place)
        for called in (first_fail, last_end, least_book, idle_rights):
            self.within(called, program)
        for owner, rights in program.owners():
            self.within(met_by, program, owner, rights[0])
            for place in places(program, "check")[-2:]:
                run = self.within(passes_over, program, owner, place)
                self.assertTrue(run is None or is_run(program, run))
        self.assertEqual(self.within(read_program, self.within(text_of, program)), program)

    def test_five_owners_and_five_rights(self):
        for body_of in (wide, deep, marked):
            for marks in (False, True):
                self.go_through(whole_program(5, marks, body_of))

    def test_dense_programs(self):
        for seed in range(12):
            self.go_through(dense_program(seed, rights=5, owners=5, functions=6, steps=14))

    def test_first_unlike_with_four_rights(self):
        for body_of in (wide, deep, marked):
            program = whole_program(4, False, body_of)
            self.assertIsNone(self.within(first_unlike, program, program))
            names = [name for name, _ in program.owners()]
            for turn in range(1, 5):
                owned = [(name, rights) for name, (_, rights) in zip(names[turn:] + names[:turn], program.owners())]
                owned.sort()
                turned = Program(program.rights(), owned, program.functions())
                told = self.within(first_unlike, program, turned)
                self.assertNotEqual(is_run(program, told), is_run(turned, told))
                self.within(first_unlike, turned, with_book(program, book_of(turned)))
        unmarked = whole_program(4, True, wide)
        self.within(first_unlike, unmarked, whole_program(4, False, wide))

    def test_spare_marks_with_three_rights_and_twelve_marks(self):
        program = whole_program(3, True, marked)
        self.assertEqual(len([step for step in places(program, "block")]), 12)
        self.within(spare_marks, program)
        owners = [(name, program.rights()) for name, _ in program.owners()]
        quiet = Program(program.rights(), owners, program.functions())
        self.assertEqual(len(self.within(spare_marks, quiet)), 12)

    def test_strangers(self):
        for body_of in (wide, deep, marked):
            program = whole_program(5, True, body_of)
            functions = [(name, owner, body) for name, owner, body in program.functions() if name != "f"]
            functions = [(name, "l" if owner == "p" else owner, without_f(body)) for name, owner, body in functions]
            program = Program(program.rights(), program.owners()[:4], functions)
            for first in (False, True):
                made = self.within(lambda: with_stranger(program, RIGHTS[1:], NAMES[:5], first=first))
                self.assertEqual((len(made.owners()), len(made.functions())), (5, 6))
                self.go_through(made)

    def test_a_live_program_with_two_hundred_deeds(self):
        for body_of in (wide, deep, marked):
            program = whole_program(5, True, body_of)
            live = Live(program)
            bodies = [body for _, _, body in program.functions()]
            for deed in range(50):
                self.within(live.revoke, "l", "s")
                self.within(live.grant, "l", "s")
                self.within(live.rewrite, "a", bodies[deed % 6])
                self.within(live.rewrite, "b", bodies[(deed + 1) % 6])
            self.assertEqual(len(self.within(live.log)), 200)
            for place in places(live.shown(), "check")[-3:]:
                self.within(live.outcome, place)
            self.within(live.first_fail)
            twin = self.within(live.copy)
            for _ in range(200):
                self.within(twin.back)
            self.assertEqual(twin.shown(), program)

    def test_a_library_of_eight_books(self):
        for rights in (4, 5):
            for body_of in (wide, deep, marked):
                program = whole_program(rights, True, body_of)
                library = Library(program)
                some = program.rights()
                for number, name in enumerate("hgfedcba"):
                    owners = [owner for owner, _ in program.owners()]
                    book = [(owner, [right for right in some if (at + number) % 7 > 1 or right != some[at % rights]])
                            for at, owner in enumerate(owners)]
                    self.within(library.put, name, book)
                quiet = self.within(library.quiet)
                for name in library:
                    self.assertEqual(name in quiet, first_fail(with_book(program, library.book_of(name))) is None)
                    alike = self.within(library.alike, library.book_of(name))
                    self.assertIn(name, alike)
                self.within(library.alike, book_of(program))

    def test_texts_of_three_thousand_signs(self):
        for step, text in [(("check", "read"), "check read "), (("loop", []), "loop { } "), (("back",), "back ")]:
            program = one_function([step] * (2900 // len(text)))
            self.assertEqual(self.within(read_program, self.within(text_of, program)), program)
        for text in ("{" * 3000, "loop{" * 600, "\n" * 3000, " " * 3000, "function " * 333, "function a a{}\n" * 200):
            with self.assertRaises(ValueError):
                self.within(read_program, text)

    def test_runs_that_are_not_asked_for_are_not_spelled_out(self):
        long = ("e", "z", [("either", [("check", "s")], [("block", True, [("call", "a")] * 10)])])
        functions = [
            ("main", "x", [("call", "a")] * 10 + [("call", "g")]), ("g", "z", [("block", True, [("check", "s")])]),
            ("a", "z", [("call", "b")] * 14), ("b", "z", [("call", "c")] * 14), ("c", "z", [("call", "e")] * 14), long,
        ]
        program = Program(["r", "s"], [("x", ["r"]), ("z", ["r", "s"])], functions)
        self.assertEqual(self.within(spare_marks, program), [])
        functions[1] = ("g", "z", [("block", True, [("check", "r")])])
        program = Program(["r", "s"], [("x", ["r"]), ("z", ["r", "s"])], functions)
        self.assertEqual(self.within(spare_marks, program), [("g", (0,))])
        functions = [
            ("main", "x", [("either", [("call", "w")], [("call", "a")] * 10 + [("call", "g")])]),
            ("w", "y", [("block", True, [("call", "g")])]), ("g", "z", [("check", "s")]),
            ("a", "z", [("call", "b")] * 14), ("b", "z", [("call", "e")] * 14), long,
        ]
        program = Program(["r", "s"], [("x", ["r"]), ("y", ["r", "s"]), ("z", ["r", "s"])], functions)
        self.assertEqual(len(self.within(needless, program, ("g", (0,)))[1]), 3)

    def test_ends_that_take_more_events_than_there_could_ever_be(self):
        functions = [(name, "x", [("call", other(at, 1))] * 14) for at, name in enumerate(NAMES[:5])]
        functions += [("f", "x", [("check", "r")])]
        functions[0] = ("a", "x", [("either", [("call", "b")], [("call", "e")]), ("check", "s")])
        program = Program(["r", "s"], [("x", ["r"])], functions)
        run = self.within(first_fail, program)
        self.assertEqual(len(run), 2 + 14 * 3 + 1)
        functions[0] = ("a", "x", [("call", "b"), ("check", "s")])
        program = Program(["r", "s"], [("x", ["r"])], functions)
        self.assertEqual(self.within(outcome, program, ("a", (1,))), "fails")
        self.assertTrue(self.within(can_end, program, "b", ["r"]))
        self.assertEqual(self.within(held, program, ("a", (1,))), [["r"]])

    def test_runs_of_three_thousand_events(self):
        functions = [("a", "x", [("call", "b")] * 11 + [("tail", "b")]), ("b", "x", [("call", "c")] * 13),
                     ("c", "x", [("call", "d")] * 8), ("d", "x", [("back",)])]
        program = Program(["r"], [("x", ["r"])], functions)
        each = 2 + 13 * (2 + 8 * 2)
        run = self.within(last_end, program)
        self.assertEqual(len(run), 12 * each)
        self.assertTrue(is_run(program, run))


if __name__ == "__main__":
    unittest.main()
