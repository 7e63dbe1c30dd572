"""[11] to [14] Who wins, the least coins, told bids, answers and steps; [1], [2], [4], [6] and [7] as far as books go."""

import itertools
import time
import unittest

from bidmover.board import Board
from bidmover.book import Book
from bidmover.errors import BadBid, BadHand, NoPlace, OutOfRange
from bidmover.names import HANDS
from helper import (
    BOARDS, GREAT, NO_HANDS, NO_PLACES, Backwards, Case, bid_bound, board_of, first, great_board, small_board,
)

BAD_COINS = (-1, 21, 22, 10 ** 20, -10 ** 20, GREAT, -GREAT)
BAD_TURNS = (-1, 31, 32, 10 ** 20, -10 ** 20, GREAT, -GREAT)


def shares(board, coins, turns):
    """Each place, turns left, north's coins and holder that a book answers for."""
    return itertools.product(board.places, range(turns + 1), range(coins + 1), HANDS)


def questions(book):
    """Each question with good arguments up to the holder; more of them for the last two."""
    return (
        (book.winner, ()),
        (book.bid_of, ()),
        (book.answer_of, (0,)),
        (book.step_of, ("north",)),
    )


class MakingTest(Case):
    def test_bounds(self):
        board = small_board()
        for coins, turns in ((0, 0), (0, 30), (20, 0), (20, 30), (1, 1)):
            book = Book(board, coins, turns)
            self.assertEqual(book.winner("c", turns, coins, "north"), "north")
            self.assertEqual(book.winner("d", turns, coins, "north"), "south")

    def test_coins_beyond_the_bounds(self):
        for number, coins in enumerate(BAD_COINS):
            for turns in (0, 5, 30, 31, -1):
                with self.subTest(number=number, turns=turns):
                    self.assert_refused(OutOfRange, Book, small_board(), coins, turns)

    def test_turns_beyond_the_bounds(self):
        for number, turns in enumerate(BAD_TURNS):
            for coins in (0, 5, 20, 21, -1):
                with self.subTest(number=number, coins=coins):
                    self.assert_refused(OutOfRange, Book, small_board(), coins, turns)

    def test_the_board_stays(self):
        board = small_board()
        before = (board.places, board.lanes, board.goals)
        book = Book(board, 5, 5)
        book.winner("a", 5, 2, "north")
        book.step_of("a", 5, 2, "north", "south")
        self.assertEqual((board.places, board.lanes, board.goals), before)

    def test_a_list_changed_later_changes_nothing(self):
        places, lanes, goals = ["a", "b"], [("a", "b")], []
        book = Book(Board(places, lanes, goals), 4, 4)
        goals.append("b")
        lanes.append(("b", "a"))
        places.append("c")
        self.assertIsNone(book.least("a", 4, "north"))
        self.assertIsNone(book.step_of("a", 4, 2, "north", "north"))
        self.assert_refused(NoPlace, book.winner, "c", 1, 1, "north")

    def test_books_of_one_board_are_apart(self):
        board = small_board()
        little, great = Book(board, 4, 1), Book(board, 9, 6)
        self.assertEqual((little.least("b", 1, "north"), great.least("b", 1, "north")), (2, 5))
        self.assert_refused(OutOfRange, little.winner, "b", 2, 4, "north")
        self.assert_refused(OutOfRange, little.winner, "b", 1, 5, "north")
        self.assertEqual(great.winner("b", 2, 5, "north"), "north")


class RefusedTest(Case):
    def setUp(self):
        self.book = Book(small_board(), 5, 4)

    def test_places(self):
        for text in NO_PLACES:
            for question, more in questions(self.book):
                with self.subTest(text=text, question=question.__name__):
                    self.assert_refused(NoPlace, question, text, 2, 2, "north", *more)
            self.assert_refused(NoPlace, self.book.least, text, 2, "north")

    def test_turns_are_bounded_by_the_books_own(self):
        for turns in (-1, 5, 30, 31, GREAT, -GREAT):
            for place in "abcd":
                for question, more in questions(self.book):
                    self.assert_refused(OutOfRange, question, place, turns, 2, "north", *more)
                self.assert_refused(OutOfRange, self.book.least, place, turns, "north")

    def test_coins_are_bounded_by_the_books_own(self):
        for north in (-1, 6, 20, 21, GREAT, -GREAT):
            for place in "abcd":
                for question, more in questions(self.book):
                    self.assert_refused(OutOfRange, question, place, 2, north, "north", *more)

    def test_ribbon(self):
        for text in NO_HANDS:
            for place in "abcd":
                for question, more in questions(self.book):
                    self.assert_refused(BadHand, question, place, 2, 2, text, *more)
                self.assert_refused(BadHand, self.book.least, place, 2, text)

    def test_hand_of_a_step(self):
        for text in NO_HANDS:
            for place in "abcd":
                for turns in (0, 2):
                    self.assert_refused(BadHand, self.book.step_of, place, turns, 2, "north", text)

    def test_bid(self):
        for place in "abcd":
            for turns in (0, 2):
                for bid in (-1, 4, 5, 6, GREAT, -GREAT):
                    self.assert_refused(BadBid, self.book.answer_of, place, turns, 2, "north", bid)
                for bid in (-1, 3, 5, 6, GREAT, -GREAT):
                    self.assert_refused(BadBid, self.book.answer_of, place, turns, 2, "south", bid)
                self.book.answer_of(place, turns, 2, "north", 3)
                self.book.answer_of(place, turns, 2, "south", 2)

    def test_the_first_bad_argument_is_the_one_refused(self):
        place = [(None, text) for text in "abcd"] + [(NoPlace, "z"), (NoPlace, "")]
        turns = [(None, 0), (None, 4), (OutOfRange, -1), (OutOfRange, 5), (OutOfRange, GREAT)]
        north = [(None, 2), (OutOfRange, -1), (OutOfRange, 6), (OutOfRange, -GREAT)]
        ribbon = [(None, "north"), (None, "south"), (BadHand, "nobody")]
        bid = [(None, 2), (BadBid, -1), (BadBid, 6), (BadBid, GREAT)]
        self.assert_first_refused(self.book.winner, (place, turns, north, ribbon))
        self.assert_first_refused(self.book.bid_of, (place, turns, north, ribbon))
        self.assert_first_refused(self.book.least, (place, turns, ribbon))
        self.assert_first_refused(self.book.answer_of, (place, turns, north, ribbon, bid))
        self.assert_first_refused(self.book.step_of, (place, turns, north, ribbon, ribbon))

    def test_a_refusal_changes_nothing(self):
        before = [self.book.winner(*share) for share in shares(small_board(), 5, 4)]
        self.test_the_first_bad_argument_is_the_one_refused()
        self.assertEqual([self.book.winner(*share) for share in shares(small_board(), 5, 4)], before)


class EndedTest(Case):
    def check_ended(self, book, place, turns, coins, hand):
        for ribbon in HANDS:
            self.assertEqual(book.least(place, turns, ribbon), 0 if hand == "north" else None)
            for north in range(coins + 1):
                self.assertEqual(book.winner(place, turns, north, ribbon), hand)
                self.assertIsNone(book.bid_of(place, turns, north, ribbon))
                for bid in range(bid_bound(north, coins - north, ribbon) + 1):
                    self.assertIsNone(book.answer_of(place, turns, north, ribbon, bid))
                for leader in HANDS:
                    self.assertIsNone(book.step_of(place, turns, north, ribbon, leader))

    def test_a_goal_and_a_dead_end(self):
        book = Book(small_board(), 5, 4)
        for turns in range(5):
            self.check_ended(book, "c", turns, 5, "north")
            self.check_ended(book, "d", turns, 5, "south")

    def test_no_turn_left(self):
        book = Book(small_board(), 5, 4)
        self.check_ended(book, "a", 0, 5, "south")
        self.check_ended(book, "b", 0, 5, "south")

    def test_a_book_of_no_turns_and_no_coins(self):
        book = Book(small_board(), 0, 0)
        for place, hand in (("a", "south"), ("b", "south"), ("c", "north"), ("d", "south")):
            self.check_ended(book, place, 0, 0, hand)


class ByHandTest(Case):
    """One turn from a, with a goal and a dead end behind it: whoever wins the turn wins."""

    def test_the_holder_wins_with_as_many_coins(self):
        book = Book(board_of("one step"), 4, 1)
        self.assertEqual(book.least("a", 1, "north"), 2)
        self.assertEqual(book.least("a", 1, "south"), 3)
        self.assertEqual(book.winner("a", 1, 2, "north"), "north")
        self.assertEqual(book.winner("a", 1, 2, "south"), "south")

    def test_bids(self):
        book = Book(board_of("one step"), 4, 1)
        self.assertEqual(book.bid_of("a", 1, 1, "north"), 2)
        self.assertEqual(book.bid_of("a", 1, 0, "north"), 1)
        self.assertEqual(book.bid_of("a", 1, 4, "south"), 1)
        self.assertEqual(book.bid_of("a", 1, 3, "south"), 2)
        self.assertIsNone(book.bid_of("a", 1, 2, "south"))
        self.assertIsNone(book.bid_of("a", 1, 2, "north"))

    def test_answers(self):
        book = Book(board_of("one step"), 4, 1)
        self.assertEqual([book.answer_of("a", 1, 2, "north", bid) for bid in range(3)], [0, 1, 2])
        self.assertEqual([book.answer_of("a", 1, 1, "north", bid) for bid in range(4)], [0, 1, None, None])
        self.assertEqual([book.answer_of("a", 1, 3, "south", bid) for bid in range(4)], [0, 1, None, None])

    def test_an_answer_below_the_bid(self):
        book = Book(board_of("only to the goal"), 4, 1)
        self.assertEqual([book.answer_of("a", 1, 2, "north", bid) for bid in range(3)], [0, 0, 0])
        self.assertEqual([book.answer_of("a", 1, 2, "south", bid) for bid in range(3)], [None, None, None])

    def test_steps(self):
        book = Book(board_of("one step"), 4, 1)
        for north, ribbon in itertools.product(range(5), HANDS):
            self.assertEqual(book.step_of("a", 1, north, ribbon, "north"), "g")
            self.assertEqual(book.step_of("a", 1, north, ribbon, "south"), "d")

    def test_the_first_step_in_order(self):
        board = Board(["a", "c", "ca", "d", "b"], [("a", "d"), ("a", "ca"), ("a", "b"), ("a", "c")], ["c", "ca"])
        book = Book(board, 3, 2)
        self.assertEqual(book.step_of("a", 2, 1, "north", "north"), "c")
        self.assertEqual(book.step_of("a", 2, 1, "north", "south"), "b")

    def test_no_winning_step(self):
        self.assertIsNone(Book(board_of("only to the goal"), 3, 2).step_of("a", 1, 0, "north", "south"))
        self.assertIsNone(Book(board_of("only to a dead end"), 3, 2).step_of("a", 1, 3, "north", "north"))

    def test_the_turns_of_a_step_are_those_ahead_of_it(self):
        board = Board(["a", "b", "c"], [("a", "b"), ("b", "c")], ["c"])
        book = Book(board, 2, 2)
        self.assertEqual(book.step_of("a", 2, 0, "north", "north"), "b")
        self.assertIsNone(book.step_of("a", 1, 0, "north", "north"))

    def test_a_step_without_a_coin(self):
        book = Book(board_of("one step"), 0, 1)
        self.assertEqual(book.least("a", 1, "north"), 0)
        self.assertIsNone(book.least("a", 1, "south"))
        self.assertEqual(book.answer_of("a", 1, 0, "north", 0), 0)
        self.assertEqual(book.answer_of("a", 1, 0, "south", 0), 0)

    def test_the_ribbon_may_be_a_burden(self):
        book = Book(small_board(), 6, 2)
        self.assertEqual(book.least("a", 2, "north"), 4)
        self.assertEqual(book.least("a", 2, "south"), 3)


class AgainstBackwardsTest(Case):
    def check_book(self, board, coins, turns):
        book, oracle = Book(board, coins, turns), Backwards(board, coins)
        for share in shares(board, coins, turns):
            place, left, north, ribbon = share
            self.assertEqual(book.winner(*share), oracle.wins(*share), share)
            self.assertEqual(book.bid_of(*share), first(oracle.bids(*share)), share)
            for bid in range(bid_bound(north, coins - north, ribbon) + 1):
                self.assertEqual(book.answer_of(*share, bid), first(oracle.answers(*share, bid)), (share, bid))
            for hand in HANDS:
                self.assertEqual(book.step_of(*share, hand), first(oracle.steps(*share, hand)), (share, hand))
        self.check_least(book, oracle, board, coins, turns)

    def check_least(self, book, oracle, board, coins, turns):
        for place, left, ribbon in itertools.product(board.places, range(turns + 1), HANDS):
            least = book.least(place, left, ribbon)
            fewest = coins + 1 if least is None else least
            for north in range(coins + 1):
                hand = "north" if north >= fewest else "south"
                self.assertEqual(oracle.wins(place, left, north, ribbon), hand, (place, left, north, ribbon))

    def test_small_boards(self):
        for name in BOARDS:
            for coins in (0, 1, 2, 3, 6, 7):
                with self.subTest(name=name, coins=coins):
                    self.check_book(board_of(name), coins, 5)

    def test_all_coins_and_turns_on_small_boards(self):
        self.check_book(small_board(), 20, 6)
        self.check_book(board_of("lanes to themselves"), 4, 30)

    def test_every_board_of_two_places(self):
        ends = list(itertools.product("ab", "ab"))
        for lanes in range(16):
            for goals in ([], ["a"], ["b"], ["a", "b"]):
                board = Board(["a", "b"], [lane for bit, lane in enumerate(ends) if lanes >> bit & 1], goals)
                self.check_book(board, 3, 3)

    def test_the_greatest_book(self):
        self.check_book(great_board(), 20, 30)


class GreatestTest(Case):
    def test_it_is_made_in_a_moment(self):
        board = great_board()
        self.assertEqual((len(board.places), len(board.lanes)), (12, 40))
        begin = time.monotonic()
        Book(board, 20, 30)
        self.assertLess(time.monotonic() - begin, 5)

    def test_all_lanes_of_six_places(self):
        board = Board(list("abcdef"), list(itertools.product("abcdef", "abcdef")), ["f"])
        book = Book(board, 20, 30)
        self.assertEqual(book.least("a", 1, "north"), 10)
        self.assertEqual(book.least("a", 1, "south"), 11)
        self.assertEqual(book.least("a", 30, "north"), 0)


class SentencesTest(Case):
    """What [13] and [14] say follows."""

    def needs(self, book, board, coins, turns):
        found = {}
        for place, left, ribbon in itertools.product(board.places, range(turns + 1), HANDS):
            least = book.least(place, left, ribbon)
            found[(place, left, ribbon)] = coins + 1 if least is None else least
        return found

    def each_book(self):
        for name in BOARDS:
            yield board_of(name), 7, 8
        yield great_board(), 20, 30

    def test_a_turn_more_never_takes_norths_win(self):
        for board, coins, turns in self.each_book():
            needs = self.needs(Book(board, coins, turns), board, coins, turns)
            for place, left, ribbon in itertools.product(board.places, range(turns), HANDS):
                self.assertLessEqual(needs[(place, left + 1, ribbon)], needs[(place, left, ribbon)])

    def test_a_goal_more_never_takes_norths_win(self):
        for board, coins, turns in self.each_book():
            needs = self.needs(Book(board, coins, turns), board, coins, turns)
            for place in board.places:
                if place not in board.goals:
                    more = Board(list(board.places), list(board.lanes), list(board.goals) + [place])
                    fewer_needed = self.needs(Book(more, coins, turns), more, coins, turns)
                    for key in needs:
                        self.assertLessEqual(fewer_needed[key], needs[key])

    def test_the_ribbon_is_worth_a_coin_at_most(self):
        for board, coins, turns in self.each_book():
            needs = self.needs(Book(board, coins, turns), board, coins, turns)
            for place, left in itertools.product(board.places, range(turns + 1)):
                apart = needs[(place, left, "north")] - needs[(place, left, "south")]
                self.assertIn(apart, (-1, 0, 1))

    def test_a_book_of_more_turns_tells_the_same(self):
        for board, coins, turns in self.each_book():
            needs = self.needs(Book(board, coins, turns), board, coins, turns)
            fewer = self.needs(Book(board, coins, turns - 3), board, coins, turns - 3)
            self.assertEqual(fewer, {key: needs[key] for key in fewer})

    def test_told_answers_and_bids(self):
        for board, coins, turns in self.each_book():
            book = Book(board, coins, turns)
            for share in shares(board, coins, turns):
                self.check_told(book, share, coins)

    def check_told(self, book, share, coins):
        north, ribbon = share[2:]
        holders = north if ribbon == "north" else coins - north
        told = book.bid_of(*share)
        if told is not None:
            self.assertLessEqual(told, holders + 1)
        for bid in range(coins - holders + 1):
            self.assertIn(book.answer_of(*share, bid), (0, bid, None))


class KindsTest(Case):
    def test_whole_numbers_and_texts(self):
        kinds = {"least": set(), "bid": set(), "answer": set(), "step": set(), "winner": set()}
        for name in BOARDS:
            board = board_of(name)
            book = Book(board, 3, 4)
            for share in shares(board, 3, 4):
                place, left, north, ribbon = share
                kinds["winner"].add(type(book.winner(*share)))
                kinds["least"].add(type(book.least(place, left, ribbon)))
                kinds["bid"].add(type(book.bid_of(*share)))
                kinds["answer"] |= {
                    type(book.answer_of(*share, bid)) for bid in range(bid_bound(north, 3 - north, ribbon) + 1)
                }
                kinds["step"] |= {type(book.step_of(*share, hand)) for hand in HANDS}
        nothing = type(None)
        self.assertEqual(kinds, {
            "least": {int, nothing}, "bid": {int, nothing}, "answer": {int, nothing}, "step": {str, nothing},
            "winner": {str},
        })


if __name__ == "__main__":
    unittest.main()
