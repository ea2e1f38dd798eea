"""What several tests share: programs, values of every kind, and ways to compare."""

import random

from callersrights.errors import InvalidItem, RightsError
from callersrights.programs import Program

STORE_FUNCTIONS = [
    ("main", "app", [("call", "save"), ("loop", [("check", "read")])]),
    ("save", "lib", [("block", True, [("check", "write")]), ("either", [("check", "write")], [])]),
]


def store():
    """The program of the document's examples."""
    return Program(["read", "write"], [("app", ["read"]), ("lib", ["read", "write"])], STORE_FUNCTIONS)


def one_function(body, rights=("read", "write"), owned=("read",)):
    """A program with the function f alone."""
    return Program(list(rights), [("app", list(owned))], [("f", "app", body)])


def two_functions(body, other, owned=("read",), other_owned=("read", "write")):
    """A program with f of app and g of lib."""
    owners = [("app", list(owned)), ("lib", list(other_owned))]
    return Program(["read", "write"], owners, [("f", "app", body), ("g", "lib", other)])


def deep_list(depth):
    """A list nested so deep."""
    value = []
    for _ in range(depth - 1):
        value = [value]
    return value


def deep_tuple(depth):
    """A tuple nested so deep."""
    value = ()
    for _ in range(depth - 1):
        value = (value,)
    return value


def deep_dict(depth):
    """A dictionary nested so deep."""
    value = {}
    for _ in range(depth - 1):
        value = {"a": value}
    return value


def odd_values():
    """Values of every kind, none of which is an argument that fits anywhere but as any value."""
    return [
        None, True, False, 0, 1, -1, 10 ** 30, "", "f", "F", "read", "call", "a b", "\n", "abcdefghi", "\u00e9",
        (), (None,), ("f",), ("f", 0), ("f", ()), ("f", [0]), ["f", (0,)], ("f", (True,)), ("f", (-1,)), (1, (0,)),
        [None], [[]], [()], [True], [1], ["F"], [("back",)], [["back"]], {}, {"f": (0,)}, {0: []}, {"read": 1},
        store(), [store()], (store(),), RightsError("no"), InvalidItem([1]), [InvalidItem(2)],
        deep_list(30), deep_tuple(30), deep_dict(30),
    ]


def lists_in(value):
    """All list objects in a value, each as often as it occurs."""
    if isinstance(value, (list, tuple)):
        found = [value] if isinstance(value, list) else []
        for item in value:
            found.extend(lists_in(item))
        return found
    return []


def spoil(value):
    """Change all lists in a value."""
    for part in lists_in(value):
        part.append("spoilt")
        part.reverse()


def nested(step, depth):
    """A body in which a step stands so deep, within blocks that are not marked, loops and both sides of eithers."""
    body = [step]
    for level in range(depth - 1):
        wrap = [
            ("block", False, body), ("loop", body), ("either", body, []), ("either", [("back",)], body),
        ][level % 4]
        body = [("back",), wrap]
    return body


def nested_path(depth):
    """The path of the step in such a body."""
    path = (0,)
    for level in range(depth - 1):
        path = (1,) + ((), (), (0,), (1,))[level % 4] + path
    return path


def random_body(chance, names, rights, room, depth, marked):
    """A body made by chance; room is a list with the number of steps that may still be made."""
    body = []
    while room[0] > 0 and chance.random() < 0.7:
        room[0] -= 1
        body.append(random_step(chance, names, rights, room, depth, marked))
    return body


def random_step(chance, names, rights, room, depth, marked):
    word = chance.choice(["call", "call", "tail", "check", "check", "back", "either", "loop", "block", "block"])
    if word == "tail" and marked:
        word = "call"
    if word in ("either", "loop", "block") and depth <= 1:
        word = "check"
    if word in ("call", "tail"):
        return (word, chance.choice(names))
    if word == "check":
        return (word, chance.choice(rights))
    if word == "back":
        return (word,)
    if word == "either":
        first = random_body(chance, names, rights, room, depth - 1, marked)
        return (word, first, random_body(chance, names, rights, room, depth - 1, marked))
    if word == "loop":
        return (word, random_body(chance, names, rights, room, depth - 1, marked))
    mark = chance.random() < 0.5
    return (word, mark, random_body(chance, names, rights, room, depth - 1, marked or mark))


def random_program(seed):
    """A program within the document's limits."""
    chance = random.Random(seed)
    rights = ["read", "write", "a", "z", "zz"][:chance.randint(1, 3)]
    owners = []
    for name in ["app", "lib", "sys"][:chance.randint(1, 3)]:
        owners.append((name, [right for right in rights if chance.random() < 0.7]))
    names = ["main", "f", "g", "h"][:chance.randint(1, 4)]
    functions = []
    for name in names:
        body = random_body(chance, names, rights, [14], 4, False)
        functions.append((name, chance.choice(owners)[0], body))
    return Program(rights, owners, functions)
