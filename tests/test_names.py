"""[3] Names, [4] hands."""

import unittest

from bidmover.errors import BadHand
from bidmover.names import HANDS, good_name, other
from helper import Case

SMALL_LETTERS = "abcdefghijklmnopqrstuvwxyz"
ALL_SIGNS = [chr(code) for code in range(ord(" "), ord("~") + 1)]


class NamesTest(Case):
    def test_lengths(self):
        for length in range(41):
            with self.subTest(length):
                self.assertIs(good_name("k" * length), 1 <= length <= 6)

    def test_each_sign_alone(self):
        for sign in ALL_SIGNS:
            with self.subTest(sign):
                self.assertIs(good_name(sign), sign in SMALL_LETTERS)

    def test_each_sign_at_each_spot(self):
        for sign in ALL_SIGNS:
            for spot in range(6):
                text = "azazaz"[:spot] + sign + "azazaz"[spot + 1:]
                with self.subTest(text):
                    self.assertIs(good_name(text), sign in SMALL_LETTERS)

    def test_ordinary_names(self):
        for text in ("a", "z", "ba", "harbor", "north"):
            self.assertIs(good_name(text), True)

    def test_no_names(self):
        for text in ("", "`", "{", "A", "Z", "aB", "a1", "0", " ", "a b", " a", "a ", "a_b", "harbors"):
            self.assertIs(good_name(text), False)


class HandsTest(Case):
    def test_the_hands(self):
        self.assertEqual(HANDS, ("north", "south"))
        self.assertIs(type(HANDS), tuple)

    def test_other(self):
        self.assertEqual(other("north"), "south")
        self.assertEqual(other("south"), "north")

    def test_texts_that_are_nearly_a_hand(self):
        texts = (
            "", " ", "n", "s", "nort", "orth", "outh", "northh", "souths", "North", "South", "NORTH",
            "SOUTH", "north ", " north", "south ", " south", "northsouth", "east", "th", "~" * 40,
        )
        for text in texts:
            with self.subTest(text):
                self.assert_refused(BadHand, other, text)


if __name__ == "__main__":
    unittest.main()
