"""Strangers: owners that call some functions, and checks whose walks do not get to an owner's frames."""

from callersrights.bodies import with_inner
from callersrights.errors import InvalidItem, InvalidList, InvalidNumber, InvalidProgram
from callersrights.flow import Flow
from callersrights.programs import MOST_FUNCTIONS, MOST_OWNERS, Program, need_known, need_place, need_program
from callersrights.search import search_runs

STRANGER = "stranger"


class Passing(Flow):
    """Frames that are handed rights, and besides what becomes of an owner's frames below them.

    This is whether a walk would meet such a frame, and whether there is one that it would not meet.
    """

    def __init__(self, program, owner):
        Flow.__init__(self, program)
        self.watched = owner

    def first_handed(self):
        """All rights; nothing is below the first frame."""
        return (self.all_rights, False, False)

    def standing_at(self, name, path, handed):
        """The same for a check at a step, or for the frame that a call there brings."""
        rights, met, missed = handed
        found = self.rights_at(name, path, rights)
        own = self.owner_of[name] == self.watched
        if self.is_marked(name, path):
            return (found, own, met or missed)
        return (found, met or own, missed)

    def passes(self, standing, right):
        """Whether a check of a right passes."""
        return right in standing[0]


def with_stranger(program, rights, opened, *, first=False):
    """The program with a stranger that has some rights and calls some functions, perhaps ahead of all others."""
    need_room(program)
    need_some(rights, program.rights())
    need_some(opened, names_of(program.functions()))
    if not isinstance(first, bool):
        raise InvalidNumber(first)
    functions = [(name, owner, turned_body(body)) for name, owner, body in program.functions()]
    loops = [("loop", [("call", name)]) for name in opened]
    stranger = (STRANGER, STRANGER, [("loop", loops)])
    functions = [stranger] + functions if first else functions + [stranger]
    return Program(program.rights(), program.owners() + [(STRANGER, rights)], functions)


def need_room(program):
    """Refuse what is no program to which a stranger can come."""
    need_program(program)
    owners = names_of(program.owners())
    names = names_of(program.functions())
    if len(owners) == MOST_OWNERS or len(names) == MOST_FUNCTIONS or STRANGER in owners or STRANGER in names:
        raise InvalidProgram(program)


def names_of(rows):
    """The names of owners or functions."""
    return [row[0] for row in rows]


def need_some(value, names):
    """Refuse what is no list of some of the names, each once."""
    if not isinstance(value, list):
        raise InvalidList(value)
    for at, item in enumerate(value):
        if item not in names or item in value[:at]:
            raise InvalidItem(item)


def turned_body(body):
    """A copy of a body in which the stranger is called wherever the program goes back to it."""
    return [turned_step(step) for step in body]


def turned_step(step):
    """A copy of a step in which the stranger is called wherever the program goes back to it."""
    return ("call", STRANGER) if step[0] == "back" else with_inner(step, turned_step)


def passes_over(program, owner, place):
    """A run, as short as can be, that ends with a check at a place that does not meet a frame of an owner, or None.

    Such a frame stands on the stack, but behind a mark.
    """
    need_program(program)
    need_known(owner, names_of(program.owners()))
    need_place(program, place, ("check",))
    search = search_runs(Passing(program, owner))
    return search.nearest(lambda event: event.told() == ("check", place) and event.standing[2])
