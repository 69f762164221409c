"""The errors: their attributes, how they are made, and under which class they stand."""

import copy
import unittest

from standinparts import errors
from tests.odd import all_odd_values

PARTS_ERRORS = {
    "BadAllowance": "index", "BadPlace": "index", "BadCount": "part", "BadDate": "date", "BadMany": "many",
    "BadList": "value", "BadStock": "value", "BadAllowances": "value", "RingOfLists": "word", "BadRule": "what",
    "BadEvent": "event", "BadEvents": "index", "BadShare": "word", "BadWait": "wait", "BadEither": "index",
    "BadChoice": "choice", "BadNumber": "number", "BadMenu": "index", "BadText": "index", "BadPart": "part",
    "BadLine": "line", "Lacking": "few"}
OTHERS = {
    "UnknownPlace": ("word", KeyError), "UnknownList": ("word", KeyError), "TooMany": ("limit", OverflowError),
    "NothingToUndo": ("index", RuntimeError)}


def names():
    """All errors with the names of their attributes."""
    return [*PARTS_ERRORS.items(), *[(name, row[0]) for name, row in OTHERS.items()]]


class ErrorsTest(unittest.TestCase):
    def test_made_by_position_and_by_name(self):
        for name, attribute in names():
            error_class = getattr(errors, name)
            for value in all_odd_values() + [{"a": [1]}, ("a", "b")]:
                with self.subTest(name=name):
                    self.assertIs(getattr(error_class(value), attribute), value)
                    self.assertIs(getattr(error_class(**{attribute: value}), attribute), value)

    def test_one_argument(self):
        for name, attribute in names():
            error_class = getattr(errors, name)
            with self.assertRaises(TypeError):
                error_class()
            with self.assertRaises(TypeError):
                error_class(1, 2)
            with self.assertRaises(TypeError):
                error_class(**{attribute + "s": 1})

    def test_raised_and_caught(self):
        for name, attribute in names():
            error_class = getattr(errors, name)
            with self.assertRaises(error_class) as caught:
                raise error_class("bolt")
            self.assertEqual(getattr(caught.exception, attribute), "bolt")
            self.assertEqual(getattr(copy.copy(caught.exception), attribute), "bolt")

    def test_base_classes(self):
        self.assertEqual(errors.PartsError.__bases__, (ValueError,))
        for name in PARTS_ERRORS:
            self.assertEqual(getattr(errors, name).__bases__, (errors.PartsError,))
        for name, (_, base) in OTHERS.items():
            self.assertEqual(getattr(errors, name).__bases__, (base,))
            self.assertFalse(issubclass(getattr(errors, name), errors.PartsError))
            self.assertFalse(issubclass(getattr(errors, name), ValueError))

    def test_none_stands_under_another_one(self):
        found = [getattr(errors, name) for name, _ in names()]
        for one in found:
            for other in found:
                self.assertEqual(issubclass(one, other), one is other)

    def test_defined_in_their_file(self):
        for name, _ in names() + [("PartsError", "")]:
            self.assertEqual(getattr(errors, name).__module__, "standinparts.errors")


if __name__ == "__main__":
    unittest.main()
