"""The error classes: bases and fields."""

import inspect
import itertools
import unittest

from ringswings import errors
from tests.oracles import OTHER_VALUES, nested_values

FIELDS = {
    "NotDistinct": ["height"],
    "TooLong": ["bound"],
    "LastPlace": [],
    "OutOfRange": [],
    "BadRing": ["error"],
    "BadHeight": ["value"],
    "BadTolerance": ["value"],
    "BadTurns": ["value"],
    "Restless": ["number"],
    "TooManyEdits": [],
    "NothingToUndo": [],
    "BadEdits": [],
    "BadEdit": ["index"],
    "Rejected": ["index"],
    "BadText": ["index"],
    "NoIndex": ["value"],
    "NoPlace": ["value"],
    "NoVersion": ["value"],
}
LOOKUPS = ("NoIndex", "NoPlace", "NoVersion")


def class_of(name):
    return getattr(errors, name)


class ErrorsTest(unittest.TestCase):
    def test_no_others(self):
        names = [name for name, value in vars(errors).items() if inspect.isclass(value)]
        self.assertEqual(sorted(names), sorted(["RingError", *FIELDS]))

    def test_bases(self):
        self.assertTrue(issubclass(errors.RingError, ValueError))
        self.assertFalse(issubclass(errors.RingError, LookupError))
        for name in FIELDS:
            self.assertEqual(class_of(name).__name__, name)
            self.assertIs(issubclass(class_of(name), errors.RingError), name not in LOOKUPS, name)
            self.assertIs(issubclass(class_of(name), ValueError), name not in LOOKUPS, name)
            self.assertIs(issubclass(class_of(name), LookupError), name in LOOKUPS, name)
            self.assertFalse(issubclass(class_of(name), (IndexError, KeyError)))

    def test_none_derives_from_another_one(self):
        for one, other in itertools.permutations(FIELDS, 2):
            self.assertFalse(issubclass(class_of(one), class_of(other)), (one, other))

    def test_fields(self):
        values = [*OTHER_VALUES, *nested_values(), (None, "tuple"), 24]
        for name, fields in FIELDS.items():
            if fields:
                for value in values:
                    error = class_of(name)(value)
                    self.assertEqual(list(vars(error)), fields)
                    self.assertIs(getattr(error, fields[0]), value)
                    self.assertIsInstance(str(error), str)
                with self.assertRaises(TypeError):
                    class_of(name)()
            else:
                self.assertEqual(vars(class_of(name)()), {})
                self.assertIsInstance(str(class_of(name)()), str)

    def test_fields_of_a_raised_error(self):
        with self.assertRaises(errors.RingError) as caught:
            raise errors.Restless(4)
        self.assertEqual(caught.exception.number, 4)


if __name__ == "__main__":
    unittest.main()
