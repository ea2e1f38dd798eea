"""Promise [1] and the document's section on the interface, for all of the package."""

import importlib
import inspect
import unittest

FUNCTIONS = {
    "programs": {"places": ["program", "word"], "step_at": ["program", "place"]},
    "runs": {
        "is_run": ["program", "value"], "next_events": ["program", "run"],
        "stack_of": ["program", "run"], "walk_of": ["program", "run"],
    },
    "standings": {
        "held": ["program", "place"], "run_to": ["program", "place", "standing"],
        "can_end": ["program", "name", "handed"], "table": ["program"], "is_table": ["program", "value"],
    },
    "checks": {"outcome": ["program", "place"], "first_fail": ["program"], "last_end": ["program"]},
    "books": {
        "book_of": ["program"], "with_book": ["program", "book"], "least_book": ["program"],
        "met_by": ["program", "owner", "right"], "idle_rights": ["program"], "needless": ["program", "place"],
    },
    "marks": {
        "first_unlike": ["program", "other"], "spare_marks": ["program"], "forgotten": ["program", "place"],
    },
    "strangers": {
        "with_stranger": ["program", "rights", "opened", "first"], "passes_over": ["program", "owner", "place"],
    },
    "texts": {"text_of": ["program"], "read_program": ["text"]},
}
CLASSES = {
    "programs": {
        "Program": {
            "__init__": ["self", "rights", "owners", "functions"],
            "rights": ["self"], "owners": ["self"], "functions": ["self"], "__eq__": ["self", "other"],
        },
    },
    "live": {
        "Live": {
            "__init__": ["self", "program"], "grant": ["self", "owner", "right"], "revoke": ["self", "owner", "right"],
            "rewrite": ["self", "name", "body"], "shown": ["self"], "outcome": ["self", "place"],
            "first_fail": ["self"], "back": ["self"], "log": ["self"], "copy": ["self"], "__eq__": ["self", "other"],
        },
    },
    "library": {
        "Library": {
            "__init__": ["self", "program"], "put": ["self", "name", "book"], "drop": ["self", "name"],
            "change": ["self", "name", "book"], "book_of": ["self", "name"], "names": ["self"], "quiet": ["self"],
            "alike": ["self", "book"], "back": ["self"], "log": ["self"], "copy": ["self"], "__len__": ["self"],
            "__contains__": ["self", "name"], "__iter__": ["self"], "__eq__": ["self", "other"],
        },
    },
    "errors": {
        "RightsError": {},
        "InvalidNumber": {"__init__": ["self", "value"]}, "InvalidList": {"__init__": ["self", "value"]},
        "InvalidItem": {"__init__": ["self", "value"]}, "InvalidWord": {"__init__": ["self", "value"]},
        "InvalidProgram": {"__init__": ["self", "value"]}, "InvalidPlace": {"__init__": ["self", "value"]},
        "InvalidRun": {"__init__": ["self", "value"]}, "InvalidText": {"__init__": ["self", "value"]},
        "InvalidName": {"__init__": ["self", "name"]}, "TakenName": {"__init__": ["self", "name"]},
        "UnknownName": {"__init__": ["self", "name"]}, "NothingToUndo": {},
    },
}


def module(name):
    return importlib.import_module("callersrights." + name)


class TestInterface(unittest.TestCase):
    def test_functions(self):
        for file, functions in FUNCTIONS.items():
            for name, parameters in functions.items():
                made = getattr(module(file), name)
                self.assertTrue(inspect.isfunction(made))
                self.assertEqual(made.__module__, "callersrights." + file)
                self.assertEqual(list(inspect.signature(made).parameters), parameters)

    def test_what_is_passed_by_name_only(self):
        parameter = inspect.signature(module("strangers").with_stranger).parameters["first"]
        self.assertIs(parameter.kind, inspect.Parameter.KEYWORD_ONLY)
        self.assertIs(parameter.default, False)

    def test_classes(self):
        for file, classes in CLASSES.items():
            for name, methods in classes.items():
                made = getattr(module(file), name)
                self.assertTrue(inspect.isclass(made))
                self.assertEqual(made.__module__, "callersrights." + file)
                for method, parameters in methods.items():
                    self.assertIn(method, vars(made))
                    self.assertEqual(list(inspect.signature(vars(made)[method]).parameters), parameters)


if __name__ == "__main__":
    unittest.main()
