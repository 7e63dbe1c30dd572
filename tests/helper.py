"""What the tests share."""

import unittest

from bidmover.board import Board

GREAT = 10 ** 5000


class Case(unittest.TestCase):
    def assert_refused(self, kind, call, *arguments):
        """The refusal is of that very class, not of one above or below it."""
        with self.assertRaises(ValueError) as caught:
            call(*arguments)
        self.assertIs(type(caught.exception), kind)


def small_board():
    """a and b lead to each other, b to the goal c and on to the dead end d."""
    return Board(
        ["c", "a", "d", "b"],
        [("b", "d"), ("c", "a"), ("b", "c"), ("a", "b"), ("b", "a")],
        ["c"],
    )
