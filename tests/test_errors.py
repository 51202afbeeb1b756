"""Point [3]: the classes of errors."""

import unittest

from keysthrough import errors
from keysthrough.errors import (
    BrokenRule,
    DoubleName,
    InvalidName,
    InvalidQuestion,
    InvalidRow,
    InvalidRule,
    KeyTellError,
    NoSuchRow,
    NothingToUndo,
    UnknownColumn,
    UnknownTable,
    Unreadable,
)

CLASSES = {
    "KeyTellError": KeyTellError,
    "InvalidName": InvalidName,
    "DoubleName": DoubleName,
    "UnknownTable": UnknownTable,
    "UnknownColumn": UnknownColumn,
    "InvalidRule": InvalidRule,
    "InvalidRow": InvalidRow,
    "InvalidQuestion": InvalidQuestion,
    "BrokenRule": BrokenRule,
    "NoSuchRow": NoSuchRow,
    "NothingToUndo": NothingToUndo,
    "Unreadable": Unreadable,
}


class Odd:
    """A value that is false, and equal to nothing."""

    def __eq__(self, other):
        return False

    def __bool__(self):
        return False


def values():
    rows = [1, [2]]
    return [
        None, True, False, 0, -1, 10 ** 30, "", "name", "two words", b"\x00", (), (1, "a"), ((), [rows, rows]), [],
        rows, {}, {"a": [1]}, {1, 2}, 1.5, object(), Odd(), ValueError("x"), KeyTellError(1), Odd, len,
    ]


class ErrorTest(unittest.TestCase):
    def test_there_are_twelve_classes_with_their_names(self):
        self.assertEqual(len(CLASSES), 12)
        for name, error_class in CLASSES.items():
            self.assertEqual(error_class.__name__, name)
            self.assertIs(getattr(errors, name), error_class)

    def test_value_by_position_is_the_very_thing(self):
        for name, error_class in CLASSES.items():
            for value in values():
                with self.subTest(name=name, value=repr(value)):
                    self.assertIs(error_class(value).value, value)

    def test_value_by_name_is_the_very_thing(self):
        for name, error_class in CLASSES.items():
            for value in values():
                with self.subTest(name=name, value=repr(value)):
                    self.assertIs(error_class(value=value).value, value)

    def test_a_value_is_not_changed(self):
        for error_class in CLASSES.values():
            told = [1, ("a", ["b"])]
            error_class(told)
            error_class(value=told)
            self.assertEqual(told, [1, ("a", ["b"])])

    def test_each_object_has_its_own_value(self):
        for error_class in CLASSES.values():
            first, second, third = error_class(1), error_class(value=2), error_class([3])
            self.assertEqual([first.value, second.value, third.value], [1, 2, [3]])

    def test_raised_and_caught(self):
        for name, error_class in CLASSES.items():
            for caught in (error_class, KeyTellError, ValueError):
                told = ["x"]
                with self.subTest(name=name, caught=caught), self.assertRaises(caught) as held:
                    raise error_class(told)
                self.assertIs(held.exception.value, told)
                self.assertIs(type(held.exception), error_class)

    def test_of_which_classes_each_is(self):
        for name, error_class in CLASSES.items():
            self.assertTrue(issubclass(error_class, KeyTellError), name)
            self.assertTrue(issubclass(error_class, ValueError), name)

    def test_of_which_classes_each_is_not(self):
        for name, error_class in CLASSES.items():
            for other_name, other in CLASSES.items():
                if other_name not in (name, "KeyTellError"):
                    self.assertFalse(issubclass(error_class, other), (name, other_name))
                    self.assertNotIsInstance(error_class(0), other)
            self.assertFalse(issubclass(error_class, (LookupError, TypeError, ArithmeticError, RuntimeError)), name)


if __name__ == "__main__":
    unittest.main()
