"""Promises [12] and [13], and [2] and [3] for them."""

import unittest

from callersrights.errors import InvalidPlace, InvalidProgram, InvalidWord
from callersrights.programs import Program, places, step_at
from samples import deep_tuple, lists_in, nested, nested_path, odd_values, one_function, random_program, spoil, store

WORDS = ["call", "tail", "check", "back", "either", "loop", "block"]
BODY = [
    ("back",),
    ("call", "g"),
    ("either", [("back",), ("check", "read")], [("tail", "f"), ("check", "read"), ("loop", [("check", "write")])]),
    ("loop", [("loop", [("call", "f")]), ("block", True, [("check", "write"), ("block", False, [])])]),
    ("block", False, [("either", [], []), ("tail", "g")]),
]


def sample():
    functions = [("g", "app", [("check", "read")]), ("f", "app", BODY)]
    return Program(["read", "write"], [("app", ["read"])], functions)


def all_places(program):
    """Each place of a program with its step, found another way than the package does."""
    found = []
    for name, _, body in program.functions():
        waiting = [((at,), step) for at, step in enumerate(body)]
        while waiting:
            path, step = waiting.pop()
            found.append(((name, path), step))
            parts = [part for part in step if isinstance(part, list)]
            for side, part in enumerate(parts):
                turn = (side,) if len(parts) == 2 else ()
                waiting.extend([(path + turn + (at,), inner) for at, inner in enumerate(part)])
    return found


class TestPlaces(unittest.TestCase):
    def test_each_word(self):
        told = {word: places(sample(), word) for word in WORDS}
        self.assertEqual(told, {
            "call": [("f", (1,)), ("f", (3, 0, 0))],
            "tail": [("f", (2, 1, 0)), ("f", (4, 1))],
            "check": [("g", (0,)), ("f", (2, 0, 1)), ("f", (2, 1, 1)), ("f", (2, 1, 2, 0)), ("f", (3, 1, 0))],
            "back": [("f", (0,)), ("f", (2, 0, 0))],
            "either": [("f", (2,)), ("f", (4, 0))],
            "loop": [("f", (2, 1, 2)), ("f", (3,)), ("f", (3, 0))],
            "block": [("f", (3, 1)), ("f", (3, 1, 1)), ("f", (4,))],
        })

    def test_the_documents_place(self):
        body = [("back",), ("back",), ("either", [("back",)], [("check", "read")])]
        self.assertEqual(step_at(one_function(body), ("f", (2, 1, 0))), ("check", "read"))

    def test_by_name(self):
        self.assertEqual(places(program=sample(), word="back"), places(sample(), "back"))
        self.assertEqual(step_at(program=sample(), place=("f", (1,))), ("call", "g"))

    def test_order_and_steps_for_programs_of_every_kind(self):
        for seed in range(150):
            program = random_program(seed)
            order = [name for name, _, _ in program.functions()]
            found = all_places(program)
            for word in WORDS:
                told = places(program, word)
                wanted = [place for place, step in found if step[0] == word]
                wanted.sort(key=lambda place: (order.index(place[0]), place[1]))
                self.assertEqual(repr(told), repr(wanted))
            for place, step in found:
                self.assertEqual(repr(step_at(program, place)), repr(step))

    def test_no_places(self):
        empty = one_function([])
        for word in WORDS:
            self.assertEqual(places(empty, word), [])

    def test_new_results(self):
        program = sample()
        first = places(program, "check")
        first.append(None)
        self.assertEqual(len(places(program, "check")), 5)
        for word in ("either", "loop", "block"):
            for place in places(program, word):
                step = step_at(program, place)
                before = repr(step)
                spoil(step)
                self.assertEqual(repr(step_at(program, place)), before)
        self.assertEqual(program, sample())

    def test_no_list_occurs_twice(self):
        inner = [("back",)]
        program = one_function([("either", inner, inner), ("loop", [("either", inner, inner)])])
        for place in places(program, "either") + places(program, "loop"):
            found = lists_in(step_at(program, place))
            self.assertEqual(len({id(part) for part in found}), len(found))

    def test_refused_programs(self):
        for value in odd_values():
            if isinstance(value, Program):
                continue
            for call in (lambda: places(value, None), lambda: step_at(value, None)):
                with self.assertRaises(InvalidProgram) as caught:
                    call()
                self.assertIs(caught.exception.value, value)

    def test_refused_words(self):
        words = ["", "Call", "calls", "marked", "or", "end", "fail", "call ", ["call"], ("call",), {"call": 1}]
        for value in [value for value in odd_values() if value != "call"] + words:
            with self.assertRaises(InvalidWord) as caught:
                places(sample(), value)
            self.assertIs(caught.exception.value, value)

    def refuses_place(self, program, value):
        with self.assertRaises(InvalidPlace) as caught:
            step_at(program, value)
        self.assertIs(caught.exception.value, value)

    def test_refused_places(self):
        for value in odd_values():
            self.refuses_place(sample(), value)
        for name in ["h", "", "app", "F", None, True, ("f",), ["f"], {}]:
            self.refuses_place(sample(), (name, (0,)))
        for path in [
            (), (5,), (-1,), (0, 0), (1, 0), (2, 0), (2, 1), (2, 2, 0), (2, -1, 0), (2, 0, 2), (2, 1, 2, 1),
            (2, 1, 2, 0, 0), (3, 2), (3, 0, 1), (3, 1, 1, 0), (3, -1), (4, 0, 0), (4, 0, 1, 0), (4, 2), (10 ** 30,),
            (True,), (False,), (2, True, 0), (2, False, 0), (2, 0, True), (2, 1, False), (2, 1, 2, False),
            (None,), ("0",), ((0,),), (2, (1,), 0), (2, [1], 0), [0], [2, 1, 0], 0, None, {0: 0}, "0",
            (0,) * 1000, deep_tuple(29),
        ]:
            self.refuses_place(sample(), ("f", path))
        for value in [["f", (0,)], ("f", 0), ("f", (0,), ()), ("f",), ((0,), "f"), ("f", 0, 0)]:
            self.refuses_place(sample(), value)

    def test_large_bodies(self):
        body = [("check", "read")] * 1000
        functions = [(name, "app", body) for name in ["a", "b", "c", "d", "e", "f"]]
        program = Program(["read"], [("app", [])], functions)
        found = places(program, "check")
        self.assertEqual(found, [(name, (at,)) for name in "abcdef" for at in range(1000)])
        for place in found:
            self.assertEqual(step_at(program, place), ("check", "read"))

    def test_deep_bodies(self):
        program = one_function(nested(("tail", "f"), 12))
        place = ("f", nested_path(12))
        self.assertEqual(places(program, "tail"), [place])
        self.assertEqual(step_at(program, place), ("tail", "f"))
        self.refuses_place(program, ("f", place[1] + (0,)))
        self.refuses_place(program, ("f", place[1][:-1] + (1,)))

    def test_large_and_deep_bodies(self):
        body = nested(("check", "read"), 12) * 40
        program = one_function(body)
        found = all_places(program)
        self.assertGreater(len(found), 900)
        self.assertEqual(len(places(program, "check")), 40)
        for place, step in found:
            self.assertEqual(step_at(program, place), step)


class TestStore(unittest.TestCase):
    def test_the_documents_example(self):
        self.assertEqual(places(store(), "check"), [("main", (1, 0)), ("save", (0, 0)), ("save", (1, 0, 0))])
        self.assertEqual(places(store(), "either"), [("save", (1,))])


if __name__ == "__main__":
    unittest.main()
