"""Promise [2] and all points on names: rights, owners and functions may well have the same names."""

import random
import re
import unittest

from callersrights.books import book_of, idle_rights, least_book, met_by, needless, with_book
from callersrights.checks import first_fail, last_end, outcome
from callersrights.library import Library
from callersrights.live import Live
from callersrights.marks import first_unlike, forgotten, spare_marks
from callersrights.programs import Program, places, step_at
from callersrights.runs import next_events, stack_of
from callersrights.standings import can_end, held, is_table, run_to, table
from callersrights.strangers import passes_over, with_stranger
from callersrights.texts import read_program, text_of
from samples import choices, some_program

LETTERS = "abcdef"


def renamed(value, names):
    """A value with other names in the place of all the strings that have one there."""
    if isinstance(value, (list, tuple)):
        return type(value)([renamed(part, names) for part in value])
    return names.get(value, value) if isinstance(value, str) else value


def coded(program, right, owner, function):
    """A program with other names, made of a sign for each kind and a letter; the order of the names is kept."""
    rights = {name: right + LETTERS[at] for at, name in enumerate(program.rights())}
    owners = {name: owner + LETTERS[at] for at, (name, _) in enumerate(program.owners())}
    functions = {name: function + LETTERS[at] for at, (name, _, _) in enumerate(program.functions())}

    def body_of(body):
        return [step_of(step) for step in body]

    def step_of(step):
        if step[0] in ("call", "tail"):
            return (step[0], functions[step[1]])
        if step[0] == "check":
            return (step[0], rights[step[1]])
        return tuple([body_of(part) if isinstance(part, list) else part for part in step])

    owned = [(owners[name], renamed(some, rights)) for name, some in program.owners()]
    made = [(functions[name], owners[other], body_of(body)) for name, other, body in program.functions()]
    return Program(list(rights.values()), owned, made)


def told(program, chance):
    """What all functions tell of a program, with arguments by chance."""
    spots = places(program, "check") + places(program, "call") + places(program, "tail")
    found = [places(program, "block"), table(program), is_table(program, table(program)), first_fail(program),
             last_end(program), book_of(program), least_book(program), idle_rights(program), spare_marks(program)]
    run = found[3] or found[4] or []
    found += [next_events(program, run[:-1]), stack_of(program, run)]
    for place in spots:
        found += [step_at(program, place), held(program, place)]
        found += [run_to(program, place, some) for some in choices(program.rights())]
    for name, _, _ in program.functions():
        found += [can_end(program, name, some) for some in choices(program.rights())]
    for owner, _ in program.owners():
        found += [met_by(program, owner, right) for right in program.rights()]
    for place in places(program, "check"):
        found += [outcome(program, place), needless(program, place), forgotten(program, place)]
        found += [passes_over(program, owner, place) for owner, _ in program.owners()]
    library, live = Library(program), Live(program)
    for name in ("x", "y", "z"):
        book = [(owner, [right for right in program.rights() if chance.random() < 0.8]) for owner, _ in program.owners()]
        library.put(name, book)
        found += [first_unlike(program, with_book(program, book)), library.alike(book_of(program)), library.quiet()]
    for name, _, body in program.functions():
        live.rewrite(name, body)
        live.rewrite(name, [])
        found += [live.first_fail(), live.log(), live.shown().functions()]
    return found


class TestNames(unittest.TestCase):
    def test_the_same_names_for_all_kinds(self):
        for seed in range(30):
            program = some_program(70000 + seed)
            apart, same = coded(program, "r", "o", "f"), coded(program, "", "", "")
            self.compare(apart, same, seed)
            self.compare(wild(apart), wild(same), seed)

    def compare(self, apart, same, seed):
        one, two = told(apart, random.Random(seed)), told(same, random.Random(seed))
        for first, second in zip(one, two):
            self.assertEqual(re.sub("'[rof]([a-f])'", r"'\1'", repr(first)), repr(second))
        self.assertEqual(re.sub("[rof]([a-f])(?![a-z])", r"\1", text_of(apart)), text_of(same))
        self.assertEqual(read_program(text_of(same)), same)


def wild(program):
    """A program with a stranger that has the first right and calls all functions."""
    return with_stranger(program, program.rights()[:1], [name for name, _, _ in program.functions()])


if __name__ == "__main__":
    unittest.main()
