"""Marks and tail calls: which marks matter, and what tail calls make a walk forget."""

from callersrights.bodies import inner_body, is_marking, with_inner
from callersrights.errors import InvalidProgram
from callersrights.flow import Flow
from callersrights.programs import Program, need_place, need_program, places, step_at
from callersrights.search import search_runs


class Pairing(Flow):
    """Frames of two programs that go along, handed a pair: what each is handed in the one and in the other."""

    def __init__(self, program, other):
        Flow.__init__(self, program)
        self.other = Flow(other)

    def first_handed(self):
        """All rights, in the one and in the other."""
        return (self.all_rights, self.other.all_rights)

    def standing_at(self, name, path, handed):
        """The pair of the standings."""
        return (self.rights_at(name, path, handed[0]), self.other.rights_at(name, path, handed[1]))

    def passes(self, standing, right):
        """Whether a check passes in both; where it does in just one, the programs part."""
        return right in standing[0] and right in standing[1]


class Staying(Flow):
    """Frames that are handed a pair: what they are, and what they would be if at tail calls the frames stayed."""

    def first_handed(self):
        """All rights, in both cases."""
        return (self.all_rights, self.all_rights)

    def standing_at(self, name, path, handed):
        """The pair of the standings."""
        return (self.rights_at(name, path, handed[0]), self.rights_at(name, path, handed[1]))

    def handed_on(self, word, handed, standing):
        """What a call or a tail call hands on; a frame that stays is met at a tail call as it is at a call."""
        return (handed[0] if word == "tail" else standing[0], standing[1])

    def passes(self, standing, right):
        """Whether a check passes as frames do not stay."""
        return right in standing[0]


def first_unlike(program, other):
    """A list of events, as short as can be, that is a run of just one of two programs, or None if there is none."""
    need_program(program)
    if not isinstance(other, Program) or not is_alike(program, other):
        raise InvalidProgram(other)
    return search_runs(Pairing(program, other)).nearest(is_parting)


def is_alike(program, other):
    """Whether two programs are equal but for their owners and their marks."""
    return program.rights() == other.rights() and plain_functions(program) == plain_functions(other)


def plain_functions(program):
    """The names of the functions of a program and their bodies without marks."""
    return [(name, plain_body(body)) for name, _, body in program.functions()]


def plain_body(body):
    """A copy of a body in which no block is marked."""
    return [plain_step(step) for step in body]


def plain_step(step):
    """A copy of a step in which no block is marked."""
    if step[0] == "block":
        return ("block", False, plain_body(step[2]))
    return with_inner(step, plain_step)


def has_same_runs(program, other):
    """Whether two programs that are alike have the same runs."""
    return not search_runs(Pairing(program, other)).has(is_parting)


def is_parting(event):
    """Whether what happens in two programs is a check that passes in just one of them."""
    return event.word == "fail" and (event.target in event.standing[0]) != (event.target in event.standing[1])


def spare_marks(program):
    """The list of the places of all marked blocks that, each alone, need no mark for the same runs."""
    need_program(program)
    marked = [place for place in places(program, "block") if is_marking(step_at(program, place))]
    return [place for place in marked if has_same_runs(program, without_mark(program, place))]


def without_mark(program, place):
    """The program in which the block at a place is not marked."""
    wanted, path = place
    functions = []
    for name, owner, body in program.functions():
        functions.append((name, owner, body_without_mark(body, path) if name == wanted else body))
    return Program(program.rights(), program.owners(), functions)


def body_without_mark(body, path):
    """A copy of a body in which the block at a path is not marked."""
    at = path[0]
    return body[:at] + [step_without_mark(body[at], path[1:])] + body[at + 1:]


def step_without_mark(step, rest):
    """A copy of a step in which the block at the rest of a path, or the step itself for none, is not marked."""
    if len(rest) == 0:
        return ("block", False, step[2])
    turn, inner = inner_body(step, rest)
    part = 1 + turn[0] if turn else len(step) - 1
    return step[:part] + (body_without_mark(inner, rest[len(turn):]),) + step[part + 1:]


def forgotten(program, place):
    """A run, as short as can be, that ends with a check at a place that fails if frames stay, or None."""
    need_program(program)
    need_place(program, place, ("check",))
    search = search_runs(Staying(program))
    return search.nearest(lambda event: event.told() == ("check", place) and event.target not in event.standing[1])
