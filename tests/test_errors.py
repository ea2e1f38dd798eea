"""Promise [5]."""

import unittest

from callersrights import errors
from samples import odd_values

VALUE_CLASSES = [
    errors.InvalidNumber, errors.InvalidList, errors.InvalidItem, errors.InvalidWord,
    errors.InvalidProgram, errors.InvalidPlace, errors.InvalidRun, errors.InvalidText,
]
NAME_CLASSES = [errors.InvalidName, errors.TakenName, errors.UnknownName]


class TestErrors(unittest.TestCase):
    def test_base_classes(self):
        self.assertEqual(errors.RightsError.__bases__, (ValueError,))
        for made in VALUE_CLASSES + NAME_CLASSES + [errors.NothingToUndo]:
            self.assertEqual(made.__bases__, (errors.RightsError,))

    def test_twelve_classes(self):
        classes = VALUE_CLASSES + NAME_CLASSES + [errors.NothingToUndo]
        names = [made.__name__ for made in classes]
        self.assertEqual(len(set(names)), 12)
        self.assertEqual(names, [
            "InvalidNumber", "InvalidList", "InvalidItem", "InvalidWord", "InvalidProgram", "InvalidPlace",
            "InvalidRun", "InvalidText", "InvalidName", "TakenName", "UnknownName", "NothingToUndo",
        ])

    def test_value_by_position_by_name_and_left_out(self):
        for made in VALUE_CLASSES:
            for value in odd_values():
                self.assertIs(made(value).value, value)
                self.assertIs(made(value=value).value, value)
            self.assertIsNone(made().value)

    def test_name_by_position_by_name_and_left_out(self):
        for made in NAME_CLASSES:
            for value in odd_values():
                self.assertIs(made(value).name, value)
                self.assertIs(made(name=value).name, value)
            self.assertIsNone(made().name)

    def test_the_field_is_the_only_one(self):
        for made in VALUE_CLASSES:
            self.assertFalse(hasattr(made(1), "name"))
            self.assertRaises(TypeError, made, name=1)
        for made in NAME_CLASSES:
            self.assertFalse(hasattr(made(1), "value"))
            self.assertRaises(TypeError, made, value=1)

    def test_nothing_to_undo(self):
        made = errors.NothingToUndo()
        self.assertFalse(hasattr(made, "value"))
        self.assertFalse(hasattr(made, "name"))

    def test_raised_and_caught(self):
        for made in VALUE_CLASSES + NAME_CLASSES + [errors.NothingToUndo]:
            for caught in (made, errors.RightsError, ValueError):
                with self.assertRaises(caught):
                    raise made()

    def test_fields_of_two_objects_are_apart(self):
        one = errors.InvalidItem([1])
        two = errors.InvalidItem([2])
        self.assertEqual((one.value, two.value), ([1], [2]))


if __name__ == "__main__":
    unittest.main()
