"""Programs: rights, owners and functions, and the places of steps."""

from callersrights.bodies import WORDS, copy_body, copy_step, is_body, is_name, is_spot, is_tuple_of
from callersrights.bodies import paths_of, step_on
from callersrights.errors import InvalidItem, InvalidList, InvalidPlace, InvalidProgram, InvalidWord, UnknownName

MOST_RIGHTS = 5
MOST_OWNERS = 5
MOST_FUNCTIONS = 6


class Program:
    """Functions whose owners have rights."""

    def __init__(self, rights, owners, functions):
        check_rights(rights)
        check_owners(owners, rights)
        check_functions(functions, owners, rights)
        self._rights = list(rights)
        self._owners = copy_owners(owners)
        self._functions = copy_functions(functions)

    def rights(self):
        """The list of the rights."""
        return list(self._rights)

    def owners(self):
        """The list of the owners with their rights."""
        return copy_owners(self._owners)

    def functions(self):
        """The list of the functions with their owners and bodies."""
        return copy_functions(self._functions)

    def __eq__(self, other):
        if not isinstance(other, Program):
            return False
        if self._rights != other._rights or self._owners != other._owners:
            return False
        return self._functions == other._functions


def check_size(value, most):
    """Refuse what is no list of 1 to so many items."""
    if not isinstance(value, list) or not 1 <= len(value) <= most:
        raise InvalidList(value)


def check_rights(rights):
    """Refuse what is no list of rights."""
    check_size(rights, MOST_RIGHTS)
    known = []
    for item in rights:
        if not is_name(item) or item in known:
            raise InvalidItem(item)
        known.append(item)


def check_owners(owners, rights):
    """Refuse what is no list of owners with some of the rights."""
    check_size(owners, MOST_OWNERS)
    known = []
    for item in owners:
        if not is_owner(item, rights) or item[0] in known:
            raise InvalidItem(item)
        known.append(item[0])


def check_functions(functions, owners, rights):
    """Refuse what is no list of functions of the owners, with checks of the rights."""
    check_size(functions, MOST_FUNCTIONS)
    # Bodies may name functions behind their own, so all names are gathered ahead of the checks.
    names = [item[0] for item in functions if is_tuple_of(item, 3) and is_name(item[0])]
    owner_names = [owner[0] for owner in owners]
    known = []
    for item in functions:
        if not is_function(item, owner_names, names, rights) or item[0] in known:
            raise InvalidItem(item)
        known.append(item[0])


def is_owner(value, rights):
    """Whether a value is an owner with some of the rights."""
    return is_tuple_of(value, 2) and is_name(value[0]) and is_choice(value[1], rights)


def is_choice(value, rights):
    """Whether a value is a list of some of the rights, each once."""
    if not isinstance(value, list) or len(value) > len(rights):
        return False
    return all([right in rights and value.count(right) == 1 for right in value])


def is_function(value, owner_names, names, rights):
    """Whether a value is a function of one of the owners, with a body for these names and rights."""
    if not is_tuple_of(value, 3) or not is_name(value[0]) or value[1] not in owner_names:
        return False
    return is_body(value[2], names, rights)


def copy_owners(owners):
    """A copy of a list of owners that has no list in common with it."""
    return [(name, list(rights)) for name, rights in owners]


def copy_functions(functions):
    """A copy of a list of functions that has no list in common with it."""
    return [(name, owner, copy_body(body)) for name, owner, body in functions]


def need_program(value):
    """Refuse what is no program."""
    if not isinstance(value, Program):
        raise InvalidProgram(value)


def kept_step(program, value):
    """The step at a place, the very one that the program keeps, or None for what is no place."""
    if not is_spot(value):
        return None
    wanted, path = value
    # The kept bodies are read here, not copies: a copy of a large program for each place would take long.
    for name, _, body in program._functions:
        if name == wanted:
            return step_on(body, path)
    return None


def need_place(program, value, words):
    """Refuse what is no place of a step with one of some words."""
    step = kept_step(program, value)
    if step is None or step[0] not in words:
        raise InvalidPlace(value)


def need_known(value, names):
    """Refuse what is none of some names."""
    if value not in names:
        raise UnknownName(value)


def is_ordered(value, rights):
    """Whether a value is a list of some of the rights, each once and in their order."""
    return isinstance(value, list) and value == [right for right in rights if right in value]


def need_ordered(value, rights):
    """Refuse what is no such list."""
    if not is_ordered(value, rights):
        raise InvalidList(value)


def places(program, word):
    """The list of the places of all steps of a program with a word."""
    need_program(program)
    if word not in WORDS:
        raise InvalidWord(word)
    found = []
    for name, _, body in program._functions:
        found.extend([(name, path) for path in paths_of(body, word)])
    return found


def step_at(program, place):
    """The step of a program at a place."""
    need_program(program)
    step = kept_step(program, place)
    if step is None:
        raise InvalidPlace(place)
    return copy_step(step)
