"""[2] The classes of the refusals."""

import unittest

from bidmover import errors
from helper import Case

NAMES = (
    "BadName", "BadHand", "OutOfRange", "Twice", "NoPlace", "BadBid",
    "NoLane", "NotDue", "NothingDone", "Taken", "Full", "Missing",
)


class ErrorsTest(Case):
    def test_the_base_stands_straight_under_value_error(self):
        self.assertEqual(errors.BidmoverError.__bases__, (ValueError,))

    def test_each_class_stands_straight_under_the_base(self):
        for name in NAMES:
            with self.subTest(name):
                kind = getattr(errors, name)
                self.assertEqual(kind.__name__, name)
                self.assertEqual(kind.__bases__, (errors.BidmoverError,))

    def test_the_classes_are_apart(self):
        self.assertEqual(len({getattr(errors, name) for name in NAMES}), 12)


if __name__ == "__main__":
    unittest.main()
