"""[7] Bounds, [8] when a standing is ended, [9] how a turn is settled; [2] as far as turns go."""

import unittest

from bidmover.board import Board
from bidmover.errors import BadBid, BadHand, NoPlace, OutOfRange
from bidmover.turn import MOST_COINS, MOST_TURNS, ended, settle
from helper import GREAT, NO_HANDS, Case, small_board

BAD_TURNS = (-1, 31, 10 ** 20, -10 ** 20, GREAT, -GREAT)


class EndedTest(Case):
    def test_bounds(self):
        self.assertEqual((MOST_TURNS, MOST_COINS), (30, 20))

    def test_each_number_of_turns(self):
        board = small_board()
        for turns in range(31):
            with self.subTest(turns):
                played = "south" if turns == 0 else None
                self.assertEqual(ended(board, "a", turns), played)
                self.assertEqual(ended(board, "b", turns), played)
                self.assertEqual(ended(board, "c", turns), "north")
                self.assertEqual(ended(board, "d", turns), "south")

    def test_a_goal_without_lanes(self):
        board = Board(["a", "b"], [("a", "b")], ["b"])
        for turns in (0, 1, 30):
            self.assertEqual(ended(board, "b", turns), "north")

    def test_a_lane_to_itself_is_a_lane(self):
        board = Board(["a"], [("a", "a")], [])
        self.assertIsNone(ended(board, "a", 1))
        self.assertIsNone(ended(board, "a", 30))
        self.assertEqual(ended(board, "a", 0), "south")

    def test_a_lane_that_only_leads_in_is_none_from_there(self):
        self.assertEqual(ended(Board(["a", "b"], [("a", "b")], []), "b", 5), "south")

    def test_no_lane_and_no_goal(self):
        self.assertEqual(ended(Board(["a"], [], []), "a", 30), "south")

    def test_turns_beyond_the_bounds(self):
        board = small_board()
        for turns in BAD_TURNS:
            for place in "abcd":
                with self.subTest(place=place, great=turns > 0):
                    self.assert_refused(OutOfRange, ended, board, place, turns)

    def test_strangers(self):
        board = small_board()
        for place in ("z", "", "A", "aa", "a ", "~" * 40):
            for turns in (0, 1, 30) + BAD_TURNS:
                with self.subTest(place=place, great=turns > 0):
                    self.assert_refused(NoPlace, ended, board, place, turns)

    def test_the_board_stays(self):
        board = small_board()
        ended(board, "a", 3)
        self.assertEqual(board.places, ("a", "b", "c", "d"))
        self.assertEqual(board.ways("b"), ("a", "c", "d"))


class SettleTest(Case):
    def test_a_greater_bid(self):
        self.assertEqual(settle(5, 7, "north", 4, 3), ("south", 9, 3, "north"))
        self.assertEqual(settle(5, 7, "south", 4, 3), ("north", 1, 11, "south"))

    def test_a_greater_answer(self):
        self.assertEqual(settle(5, 7, "north", 3, 4), ("north", 1, 11, "north"))
        self.assertEqual(settle(5, 7, "south", 3, 4), ("south", 9, 3, "south"))

    def test_an_equal_answer(self):
        self.assertEqual(settle(5, 7, "north", 3, 3), ("north", 2, 10, "south"))
        self.assertEqual(settle(5, 7, "south", 3, 3), ("south", 8, 4, "north"))

    def test_nothing_named(self):
        self.assertEqual(settle(5, 7, "north", 0, 0), ("north", 5, 7, "south"))
        self.assertEqual(settle(0, 0, "south", 0, 0), ("south", 0, 0, "north"))
        self.assertEqual(settle(0, 0, "north", 0, 0), ("north", 0, 0, "south"))

    def test_all_twenty_coins(self):
        self.assertEqual(settle(20, 0, "north", 0, 20), ("north", 0, 20, "north"))
        self.assertEqual(settle(20, 0, "south", 20, 0), ("north", 0, 20, "south"))
        self.assertEqual(settle(0, 20, "north", 20, 0), ("south", 20, 0, "north"))
        self.assertEqual(settle(0, 20, "south", 0, 20), ("south", 20, 0, "south"))
        self.assertEqual(settle(10, 10, "north", 10, 10), ("north", 0, 20, "south"))
        self.assertEqual(settle(10, 10, "south", 10, 10), ("south", 20, 0, "north"))

    def test_a_tuple_comes_back(self):
        self.assertIs(type(settle(5, 7, "north", 4, 3)), tuple)

    def test_every_turn_there_is(self):
        for north in range(21):
            for south in range(21 - north):
                self.check_turns_with(north, south)

    def check_turns_with(self, north, south):
        for ribbon, bidder in (("north", "south"), ("south", "north")):
            coins = {"north": north, "south": south}
            for bid in range(coins[bidder] + 1):
                for answer in range(coins[ribbon] + 1):
                    hand = bidder if bid > answer else ribbon
                    behind = dict(coins)
                    behind[hand] -= max(bid, answer)
                    behind[bidder if hand == ribbon else ribbon] += max(bid, answer)
                    holder = bidder if bid == answer else ribbon
                    self.assertEqual(
                        settle(north, south, ribbon, bid, answer),
                        (hand, behind["north"], behind["south"], holder),
                    )


class SettleRefusedTest(Case):
    def test_coins(self):
        pairs = (
            (-1, 5), (5, -1), (21, 0), (0, 21), (-1, 21), (21, -1), (-1, -1), (11, 10), (10, 11), (20, 20), (20, 1),
            (1, 20), (25, -5), (-5, 25), (GREAT, 0), (0, GREAT), (-GREAT, GREAT), (GREAT, -GREAT), (GREAT, GREAT),
            (-GREAT, -GREAT), (10 ** 20, 0), (0, -10 ** 20),
        )
        for number, (north, south) in enumerate(pairs):
            for ribbon in ("north", "south"):
                with self.subTest(number=number, ribbon=ribbon):
                    self.assert_refused(OutOfRange, settle, north, south, ribbon, 0, 0)

    def test_ribbon(self):
        for text in NO_HANDS:
            with self.subTest(text):
                self.assert_refused(BadHand, settle, 5, 7, text, 0, 0)

    def test_bid(self):
        for bid in (-1, 8, 20, GREAT, -GREAT):
            self.assert_refused(BadBid, settle, 5, 7, "north", bid, 0)
        for bid in (-1, 6, 7, GREAT, -GREAT):
            self.assert_refused(BadBid, settle, 5, 7, "south", bid, 0)

    def test_answer(self):
        for answer in (-1, 6, 7, GREAT, -GREAT):
            self.assert_refused(BadBid, settle, 5, 7, "north", 0, answer)
            self.assert_refused(BadBid, settle, 5, 7, "north", 7, answer)
        for answer in (-1, 8, 20, GREAT, -GREAT):
            self.assert_refused(BadBid, settle, 5, 7, "south", 0, answer)
            self.assert_refused(BadBid, settle, 5, 7, "south", 5, answer)

    def test_without_a_coin(self):
        for ribbon in ("north", "south"):
            self.assert_refused(BadBid, settle, 0, 0, ribbon, 1, 0)
            self.assert_refused(BadBid, settle, 0, 0, ribbon, 0, 1)

    def test_the_other_hands_coins_are_no_bound(self):
        self.assert_refused(BadBid, settle, 20, 0, "north", 1, 0)
        self.assert_refused(BadBid, settle, 20, 0, "south", 0, 1)
        self.assertEqual(settle(20, 0, "south", 1, 0), ("north", 19, 1, "south"))

    def test_the_first_bad_argument_is_the_one_refused(self):
        for north, south in ((-1, 5), (5, -1), (11, 10), (21, 0)):
            for ribbon in ("north", "nobody"):
                for bid in (0, 99):
                    for answer in (0, -1):
                        self.assert_refused(OutOfRange, settle, north, south, ribbon, bid, answer)
        for bid, answer in ((99, 0), (0, 99), (-1, -1)):
            self.assert_refused(BadHand, settle, 5, 7, "nobody", bid, answer)
        self.assert_refused(BadBid, settle, 5, 7, "north", 99, 99)


if __name__ == "__main__":
    unittest.main()
