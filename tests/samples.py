"""What several tests share: programs, values of every kind, and ways to compare."""

import random
import unittest

from callersrights.errors import InvalidItem, InvalidName, RightsError, TakenName, UnknownName
from callersrights.library import Library
from callersrights.live import Live
from callersrights.programs import Program

STORE_FUNCTIONS = [
    ("main", "app", [("call", "save"), ("loop", [("check", "read")])]),
    ("save", "lib", [("block", True, [("check", "write")]), ("either", [("check", "write")], [])]),
]


def store():
    """The program of the document's examples."""
    return Program(["read", "write"], [("app", ["read"]), ("lib", ["read", "write"])], STORE_FUNCTIONS)


def one_function(body, rights=("read", "write"), owned=("read",)):
    """A program with the function f alone."""
    return Program(list(rights), [("app", list(owned))], [("f", "app", body)])


def two_functions(body, other, owned=("read",), other_owned=("read", "write")):
    """A program with f of app and g of lib."""
    owners = [("app", list(owned)), ("lib", list(other_owned))]
    return Program(["read", "write"], owners, [("f", "app", body), ("g", "lib", other)])


def deep_list(depth):
    """A list nested so deep."""
    value = []
    for _ in range(depth - 1):
        value = [value]
    return value


def deep_tuple(depth):
    """A tuple nested so deep."""
    value = ()
    for _ in range(depth - 1):
        value = (value,)
    return value


def deep_dict(depth):
    """A dictionary nested so deep."""
    value = {}
    for _ in range(depth - 1):
        value = {"a": value}
    return value


def odd_values():
    """Values of every kind, none of which is an argument that fits anywhere but as any value."""
    return [
        None, True, False, 0, 1, -1, 10 ** 30, "", "f", "F", "read", "call", "a b", "\n", "abcdefghi", "\u00e9",
        (), (None,), ("f",), ("f", 0), ("f", ()), ("f", [0]), ["f", (0,)], ("f", (True,)), ("f", (-1,)), (1, (0,)),
        [None], [[]], [()], [True], [1], ["F"], [("back",)], [["back"]], {}, {"f": (0,)}, {0: []}, {"read": 1},
        store(), [store()], (store(),), RightsError("no"), InvalidItem([1]), [InvalidItem(2)],
        Live(store()), Library(store()), [Live(store())], (Library(store()), (0,)),
        deep_list(30), deep_tuple(30), deep_dict(30),
    ]


def lists_in(value):
    """All list objects in a value, each as often as it occurs."""
    if isinstance(value, (list, tuple)):
        found = [value] if isinstance(value, list) else []
        for item in value:
            found.extend(lists_in(item))
        return found
    return []


def spoil(value):
    """Change all lists in a value."""
    for part in lists_in(value):
        part.append("spoilt")
        part.reverse()


def nested(step, depth):
    """A body in which a step stands so deep, within blocks that are not marked, loops and both sides of eithers."""
    body = [step]
    for level in range(depth - 1):
        wrap = [
            ("block", False, body), ("loop", body), ("either", body, []), ("either", [("back",)], body),
        ][level % 4]
        body = [("back",), wrap]
    return body


def nested_path(depth):
    """The path of the step in such a body."""
    path = (0,)
    for level in range(depth - 1):
        path = (1,) + ((), (), (0,), (1,))[level % 4] + path
    return path


def random_body(chance, names, rights, room, depth, marked):
    """A body made by chance; room is a list with the number of steps that may still be made."""
    body = []
    while room[0] > 0 and chance.random() < 0.7:
        room[0] -= 1
        body.append(random_step(chance, names, rights, room, depth, marked))
    return body


def random_step(chance, names, rights, room, depth, marked):
    word = chance.choice(["call", "call", "tail", "check", "check", "back", "either", "loop", "block", "block"])
    if word == "tail" and marked:
        word = "call"
    if word in ("either", "loop", "block") and depth <= 1:
        word = "check"
    if word in ("call", "tail"):
        return (word, chance.choice(names))
    if word == "check":
        return (word, chance.choice(rights))
    if word == "back":
        return (word,)
    if word == "either":
        first = random_body(chance, names, rights, room, depth - 1, marked)
        return (word, first, random_body(chance, names, rights, room, depth - 1, marked))
    if word == "loop":
        return (word, random_body(chance, names, rights, room, depth - 1, marked))
    mark = chance.random() < 0.5
    return (word, mark, random_body(chance, names, rights, room, depth - 1, marked or mark))


def random_program(seed):
    """A program within the document's limits."""
    chance = random.Random(seed)
    rights = ["read", "write", "a", "z", "zz"][:chance.randint(1, 3)]
    owners = []
    for name in ["app", "lib", "sys"][:chance.randint(1, 3)]:
        owners.append((name, [right for right in rights if chance.random() < 0.7]))
    names = ["main", "f", "g", "h"][:chance.randint(1, 4)]
    functions = []
    for name in names:
        body = random_body(chance, names, rights, [14], 4, False)
        functions.append((name, chance.choice(owners)[0], body))
    return Program(rights, owners, functions)


def dense_body(chance, names, rights, room, depth, marked):
    """A body that uses up its room, mostly with calls that need not be made and checks that can be passed over."""
    body = []
    while room[0] > 0 and len(body) < 4:
        room[0] -= 1
        word = chance.choice(["call", "call", "tail", "check", "either", "either", "loop", "block", "block"])
        if word == "tail" and (marked or room[0] > 3):
            word = "call"
        if depth <= 1 and word in ("either", "loop", "block"):
            word = "check"
        if word in ("call", "tail"):
            body.append((word, chance.choice(names)))
        elif word == "check":
            body.append((word, chance.choice(rights)))
        elif word == "either":
            first = dense_body(chance, names, rights, room, depth - 1, marked)
            second = dense_body(chance, names, rights, room, depth - 1, marked) if chance.random() < 0.4 else []
            body.append((word, first, second))
        elif word == "loop":
            body.append((word, dense_body(chance, names, rights, room, depth - 1, marked)))
        else:
            mark = chance.random() < 0.6
            body.append((word, mark, dense_body(chance, names, rights, room, depth - 1, marked or mark)))
    return body


def dense_program(seed, rights=3, owners=3, functions=4, steps=9):
    """A program whose runs reach many places with many standings."""
    chance = random.Random(seed)
    all_rights = ["read", "write", "a", "z", "zz"][:rights]
    owned = []
    for name in ["app", "lib", "sys", "x", "y"][:owners]:
        some = [right for right in all_rights if chance.random() < 0.8]
        owned.append((name, chance.sample(some, len(some))))
    names = ["main", "f", "g", "h", "i", "j"][:functions]
    made = []
    for name in names:
        body = dense_body(chance, names, all_rights, [steps], 4, False)
        made.append((name, chance.choice(owned)[0], body))
    return Program(all_rights, owned, made)


def open_program(seed, rights=2, owners=3, functions=4):
    """A program each of whose steps can be passed over, so that its frames get almost everywhere."""
    chance = random.Random(seed)
    all_rights = ["read", "write", "a", "z", "zz"][:rights]
    owned = []
    for name in ["app", "lib", "sys", "x", "y"][:owners]:
        owned.append((name, [right for right in all_rights if chance.random() < 0.6]))
    names = ["main", "f", "g", "h", "i", "j"][:functions]
    made = []
    for name in names:
        body = []
        for _ in range(chance.randint(1, 4)):
            word = chance.choice(["call", "tail", "tail", "check", "check", "marked"])
            other = chance.choice(names)
            step = ("check", chance.choice(all_rights)) if word == "check" else (word, other)
            if word == "marked":
                step = ("block", True, [chance.choice([("call", other), ("check", chance.choice(all_rights))])])
            body.append(("either", [step], []) if chance.random() < 0.6 else ("loop", [step]))
        made.append((name, chance.choice(owned)[0], body))
    return Program(all_rights, owned, made)


def some_program(seed):
    """A program of one of the three kinds."""
    return (random_program, dense_program, open_program)[seed % 3](seed)


def choices(rights):
    """All lists of some of the rights, each once and in their order."""
    found = [[]]
    for right in rights:
        found += [some + [right] for some in found]
    return [[right for right in rights if right in some] for some in found]


def books(program):
    """All books of a program."""
    found = [[]]
    for name, _ in program.owners():
        found = [book + [(name, list(some))] for book in found for some in choices(program.rights())]
    return found


def lacks(book, owner, right):
    """A book with one right less."""
    return [(name, [other for other in rights if (name, other) != (owner, right)]) for name, rights in book]


def size(run):
    """The number of events of a run, or None if there is none."""
    return None if run is None else len(run)


class Case(unittest.TestCase):
    """A test that knows how the package refuses."""

    def refuses(self, error, wrong, called, *arguments, **named):
        """The very argument or item is in the field of just this error."""
        with self.assertRaises(error) as caught:
            called(*arguments, **named)
        self.assertIs(type(caught.exception), error)
        by_name = error in (UnknownName, TakenName, InvalidName)
        self.assertIs(caught.exception.name if by_name else caught.exception.value, wrong)

    def beside_brute(self, run, brute, depth):
        """A run, or None, is as long as a shortest one found by brute force, which looks at runs of up to `depth`."""
        if brute is not None and brute <= depth:
            self.assertIsNotNone(run)
            self.assertEqual(len(run), brute)
        elif run is not None:
            self.assertGreater(len(run), depth)
