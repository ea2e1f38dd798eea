"""Promises [1], [2] and [5] for the functions from the standings to the texts: what holds for all of them."""

import unittest

from callersrights import books, checks, marks, standings, strangers, texts
from callersrights.errors import InvalidItem, InvalidList, InvalidPlace, InvalidProgram, InvalidText, UnknownName
from callersrights.programs import Program
from samples import Case, lists_in, odd_values, store

ERRORS = {
    "program": InvalidProgram, "other": InvalidProgram, "place": InvalidPlace, "standing": InvalidList,
    "handed": InvalidList, "name": UnknownName, "owner": UnknownName, "right": UnknownName, "book": InvalidList,
    "rights": InvalidList, "opened": InvalidList, "text": InvalidText,
}


def tails():
    """A program with recursion, marks and tail calls, which has something to tell for each function."""
    functions = [
        ("main", "app", [("either", [("tail", "save")], [("call", "save")]), ("loop", [("check", "read")])]),
        ("save", "lib", [("either", [("check", "write")], []), ("block", True, [("check", "write"), ("call", "log")])]),
        ("log", "sys", [("either", [("call", "save")], []), ("block", True, [])]),
    ]
    owners = [("app", ["read"]), ("lib", ["write", "read"]), ("sys", ["read", "write"])]
    return Program(["read", "write"], owners, functions)


def calls():
    """Each function with arguments by their names: some that have much to tell, and some for None."""
    check, far = ("save", (0, 0, 0)), ("log", (0, 0, 0))
    less = Program(["read", "write"], [("app", ["read"]), ("lib", ["read"]), ("sys", [])], tails().functions())
    book = [("app", ["read", "write"]), ("lib", []), ("sys", ["write"])]
    return [
        (standings.held, {"program": tails(), "place": check}),
        (standings.held, {"program": tails(), "place": far}),
        (standings.run_to, {"program": tails(), "place": check, "standing": ["read", "write"]}),
        (standings.run_to, {"program": tails(), "place": check, "standing": []}),
        (standings.can_end, {"program": tails(), "name": "save", "handed": ["read"]}),
        (standings.table, {"program": tails()}),
        (standings.is_table, {"program": tails(), "value": standings.table(tails())}),
        (checks.outcome, {"program": tails(), "place": check}),
        (checks.first_fail, {"program": tails()}),
        (checks.last_end, {"program": tails()}),
        (books.book_of, {"program": tails()}),
        (books.with_book, {"program": tails(), "book": book}),
        (books.least_book, {"program": tails()}),
        (books.met_by, {"program": tails(), "owner": "lib", "right": "write"}),
        (books.met_by, {"program": tails(), "owner": "sys", "right": "read"}),
        (books.idle_rights, {"program": tails()}),
        (books.needless, {"program": tails(), "place": check}),
        (books.needless, {"program": tails(), "place": ("main", (1, 0))}),
        (marks.first_unlike, {"program": tails(), "other": less}),
        (marks.first_unlike, {"program": tails(), "other": tails()}),
        (marks.spare_marks, {"program": tails()}),
        (marks.forgotten, {"program": tails(), "place": check}),
        (marks.forgotten, {"program": tails(), "place": ("main", (1, 0))}),
        (strangers.with_stranger, {"program": tails(), "rights": ["write"], "opened": ["log", "save"]}),
        (strangers.passes_over, {"program": tails(), "owner": "app", "place": ("save", (1, 0))}),
        (strangers.passes_over, {"program": tails(), "owner": "sys", "place": ("main", (1, 0))}),
        (texts.text_of, {"program": tails()}),
        (texts.read_program, {"text": texts.text_of(tails())}),
    ]


def shown(value):
    """A text of a value, the same for equal values of the same kinds alone."""
    if isinstance(value, Program):
        return "Program" + repr((value.rights(), value.owners(), value.functions()))
    if isinstance(value, dict):
        return repr([(name, shown(part)) for name, part in value.items()])
    return repr(value)


def is_told(value):
    """Whether a value is of the kinds that are returned."""
    if isinstance(value, (list, tuple)):
        return all(is_told(part) for part in value)
    return value is None or isinstance(value, Program) or type(value) in (bool, str, int)


class TestCalls(Case):
    def test_by_position_and_by_name(self):
        for called, arguments in calls():
            self.assertEqual(shown(called(*arguments.values())), shown(called(**arguments)))

    def test_there_is_something_to_tell(self):
        told = [called(**arguments) for called, arguments in calls()]
        self.assertGreater(sum(1 for value in told if value not in (None, [])), 22)

    def test_kinds_of_values(self):
        for called, arguments in calls():
            self.assertTrue(is_told(called(**arguments)), called)

    def test_equal_arguments_give_equal_results(self):
        for (called, arguments), (_, same) in zip(calls(), calls()):
            first = shown(called(**arguments))
            self.assertEqual(shown(called(**arguments)), first)
            self.assertEqual(shown(called(**same)), first)

    def test_arguments_are_not_changed(self):
        for called, arguments in calls():
            before = shown(arguments)
            called(**arguments)
            self.assertEqual(shown(arguments), before)

    def test_no_list_occurs_twice(self):
        for called, arguments in calls():
            told = called(**arguments)
            found = lists_in(told)
            self.assertEqual(len({id(part) for part in found}), len(found))
            held = [part for value in arguments.values() for part in lists_in(value)]
            self.assertFalse({id(part) for part in found} & {id(part) for part in held})

    def test_lists_belong_to_the_caller(self):
        for called, arguments in calls():
            told = called(**arguments)
            before = shown(told)
            for part in lists_in(told):
                part.reverse()
                part.append("spoilt")
            self.assertEqual(shown(called(**arguments)), before)

    def test_the_program_of_with_book_is_its_own(self):
        program, book = tails(), [("app", ["read"]), ("lib", ["write"]), ("sys", [])]
        made = books.with_book(program, book)
        before = shown(made)
        book[0][1].append("write")
        del book[1]
        for part in lists_in([made.rights(), made.owners(), made.functions()]):
            part.append("spoilt")
        self.assertEqual(shown(made), before)
        self.assertEqual(shown(program), shown(tails()))


class TestRefusals(Case):
    """Each argument of every kind, with those behind it right and wrong."""

    def fits(self, name, value, arguments):
        """Whether an odd value is right for a parameter, or refused otherwise than as a whole."""
        if name in ("program", "other") and isinstance(value, Program):
            return True
        if name in ("standing", "handed") and value == [] and isinstance(value, list):
            return True
        if name in ("rights", "opened") and isinstance(value, list):
            return True
        if name == "right" and isinstance(value, str) and value == "read":
            return True
        return name == "book" and isinstance(value, list) and len(value) == len(arguments["book"])

    def test_every_argument(self):
        for called, arguments in calls():
            names = list(arguments)
            for at, name in enumerate(names):
                if name not in ERRORS:
                    continue
                for wrong in odd_values():
                    if self.fits(name, wrong, arguments):
                        continue
                    given = list(arguments.values())
                    given[at] = wrong
                    self.refuses(ERRORS[name], wrong, called, *given)
                    for behind in (None, {}, [None]):
                        given[at + 1:] = [behind] * (len(names) - at - 1)
                        self.refuses(ERRORS[name], wrong, called, *given)

    def test_a_refused_call_changes_nothing(self):
        program = tails()
        book = [("app", []), ("lib", ["write", "read"]), ("sys", [])]
        before = shown({"program": program, "book": book})
        self.refuses(InvalidItem, book[1], books.with_book, program, book)
        self.assertEqual(shown({"program": program, "book": book}), before)

    def test_by_name_as_well(self):
        with self.assertRaises(UnknownName) as caught:
            books.met_by(program=store(), right=None, owner=["app"])
        self.assertEqual(caught.exception.name, ["app"])
        with self.assertRaises(InvalidPlace) as caught:
            standings.run_to(standing=None, place=None, program=store())
        self.assertIsNone(caught.exception.value)


if __name__ == "__main__":
    unittest.main()
