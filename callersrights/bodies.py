"""Names, steps and bodies, and the paths of steps in a body."""

LETTERS = "abcdefghijklmnopqrstuvwxyz"
LONGEST_NAME = 8
WORDS = ("call", "tail", "check", "back", "either", "loop", "block")


def is_whole(value):
    """Whether a value is a whole number."""
    return isinstance(value, int) and not isinstance(value, bool)


def is_name(value):
    """Whether a value is a name."""
    if not isinstance(value, str) or not 1 <= len(value) <= LONGEST_NAME:
        return False
    return all([sign in LETTERS for sign in value])


def is_tuple_of(value, size):
    """Whether a value is a tuple of so many items."""
    return isinstance(value, tuple) and len(value) == size


def is_body(value, names, rights, marked=False):
    """Whether a value is a body for these names of functions and these rights.

    `marked` tells whether the body stands in a marked block.
    """
    if not isinstance(value, list):
        return False
    for step in value:
        if not is_step(step, names, rights, marked):
            return False
    return True


def is_step(value, names, rights, marked):
    """Whether a value is a step for these names of functions and these rights."""
    if not isinstance(value, tuple) or len(value) == 0:
        return False
    word = value[0]
    if word == "call":
        return len(value) == 2 and value[1] in names
    if word == "tail":
        return len(value) == 2 and value[1] in names and not marked
    if word == "check":
        return len(value) == 2 and value[1] in rights
    if word == "back":
        return len(value) == 1
    return is_nest(value, names, rights, marked)


def is_nest(value, names, rights, marked):
    """Whether a tuple that is not empty is a step with bodies."""
    word = value[0]
    if word == "either":
        return len(value) == 3 and all([is_body(part, names, rights, marked) for part in value[1:]])
    if word == "loop":
        return len(value) == 2 and is_body(value[1], names, rights, marked)
    if word == "block":
        fits = len(value) == 3 and isinstance(value[1], bool)
        return fits and is_body(value[2], names, rights, marked or value[1])
    return False


def copy_body(body):
    """A copy of a body that has no list in common with it."""
    return [copy_step(step) for step in body]


def copy_step(step):
    """A copy of a step that has no list in common with it."""
    return with_inner(step, copy_step)


def with_inner(step, change):
    """A copy of a step in whose bodies stands, for each step of them, what a function makes of it."""
    return tuple([[change(inner) for inner in part] if isinstance(part, list) else part for part in step])


def inner_bodies(step):
    """The bodies of a step, each behind what a path has between the step's number and the path in that body."""
    word = step[0]
    if word == "either":
        return [((0,), step[1]), ((1,), step[2])]
    if word == "loop":
        return [((), step[1])]
    if word == "block":
        return [((), step[2])]
    return []


def inner_body(step, rest):
    """The one of a step's bodies, as above, in which the rest of a path goes on, or None."""
    for turn, body in inner_bodies(step):
        if rest[:len(turn)] == turn:
            return turn, body
    return None


def is_marking(step):
    """Whether a step is a marked block."""
    return step[0] == "block" and step[1]


def is_in_mark(body, path):
    """Whether the step of a body at a path stands in a marked block of it."""
    step = body[path[0]]
    rest = path[1:]
    if len(rest) == 0:
        return False
    if is_marking(step):
        return True
    turn, inner = inner_body(step, rest)
    return is_in_mark(inner, rest[len(turn):])


def paths_of(body, word, base=()):
    """The paths of all steps of a body with a word, in order, each behind a base."""
    found = []
    for at, step in enumerate(body):
        path = base + (at,)
        if step[0] == word:
            found.append(path)
        for turn, inner in inner_bodies(step):
            found.extend(paths_of(inner, word, path + turn))
    return found


def step_on(body, path):
    """The step of a body at a tuple of whole numbers, or None if that is the path of none."""
    if len(path) == 0 or not 0 <= path[0] < len(body):
        return None
    step = body[path[0]]
    if len(path) == 1:
        return step
    rest = path[1:]
    found = inner_body(step, rest)
    if found is None:
        return None
    turn, inner = found
    return step_on(inner, rest[len(turn):])


def is_spot(value):
    """Whether a value has the form of a place, whether or not a step is there.

    What passes here can be compared with places safely: no Boolean in it equals a number.
    """
    if not is_tuple_of(value, 2) or not isinstance(value[0], str) or not isinstance(value[1], tuple):
        return False
    return all([is_whole(number) for number in value[1]])
