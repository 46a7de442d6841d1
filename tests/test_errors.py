"""The error classes of the interface."""

import itertools
import unittest

from nocross import errors

NAMES = [
    "BadCount", "BadGroup", "Twice", "Crossed", "NoPlace",
    "Unlike", "NotFiner", "NoNumber", "NoText",
]


class Errors(unittest.TestCase):
    def test_ring_error_is_a_value_error(self):
        self.assertEqual(errors.RingError.__bases__, (ValueError,))
        self.assertEqual(errors.RingError.__module__, "nocross.errors")

    def test_each_class_stands_right_below_ring_error(self):
        for name in NAMES:
            kind = getattr(errors, name)
            self.assertEqual(kind.__bases__, (errors.RingError,), name)
            self.assertEqual((kind.__name__, kind.__module__), (name, "nocross.errors"))

    def test_none_stands_under_another_one(self):
        for one, other in itertools.permutations(NAMES, 2):
            self.assertFalse(issubclass(getattr(errors, one), getattr(errors, other)))

    def test_each_is_raised_with_a_text_and_caught_as_a_refusal(self):
        for name in NAMES:
            with self.assertRaises(errors.RingError):
                raise getattr(errors, name)("why")


if __name__ == "__main__":
    unittest.main()
