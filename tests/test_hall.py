"""[20] to [22] The hall; [1] to [4], [6], [7], [11], [13] and [15] to [19] as far as halls go."""

import itertools
import unittest

from bidmover.board import Board
from bidmover.book import Book
from bidmover.errors import (
    BadBid, BadHand, BadName, Full, Missing, NoLane, NoPlace, NotDue, NothingDone, OutOfRange, Taken,
)
from bidmover.game import Game
from bidmover.hall import MOST_BOARDS, MOST_GAMES, Hall
from bidmover.names import HANDS
from helper import BOARDS, GREAT, NO_HANDS, NO_PLACES, Backwards, Case, all_told, board_of, great_board, small_board

NO_NAMES = ("", "A", "a1", "abcdefg", "a b", " a", "a-b", "~" * 40)
TELLING = ("standing", "due", "named", "deeds", "over", "winner", "told")
BOARD_NAMES = [first + second for first in "abc" for second in "wxyz"]
GAME_NAMES = [first + second for first in "abcde" for second in "wxyz"]


def told_of(hall, name):
    return tuple(getattr(hall, question)(name) for question in TELLING)


def everything(hall):
    boards = tuple((name, hall.board_of(name)) for name in hall.boards())
    return boards, tuple((name, told_of(hall, name)) for name in hall.games())


def small_hall():
    hall = Hall()
    hall.add_board("b", small_board())
    hall.begin("g", "b", "b", 3, 4, 5, "north")
    return hall


class NamesTest(Case):
    def test_an_empty_hall(self):
        hall = Hall()
        self.assertEqual((hall.boards(), hall.games()), ((), ()))

    def test_bounds(self):
        self.assertEqual((MOST_BOARDS, MOST_GAMES), (12, 20))

    def test_names_are_told_in_order(self):
        hall = Hall()
        for name in ("c", "ba", "b", "abcdef", "zzzzzz", "bb"):
            self.assertIsNone(hall.add_board(name, small_board()))
        for name in ("z", "ba", "a", "b", "az"):
            self.assertIsNone(hall.begin(name, "c", "a", 3, 4, 5, "north"))
        self.assertEqual(hall.boards(), ("abcdef", "b", "ba", "bb", "c", "zzzzzz"))
        self.assertEqual(hall.games(), ("a", "az", "b", "ba", "z"))

    def test_told_names_are_tuples_that_stay(self):
        hall = small_hall()
        boards, games = hall.boards(), hall.games()
        hall.add_board("c", small_board())
        hall.drop("g")
        self.assertEqual((boards, games), (("b",), ("g",)))

    def test_a_board_and_a_game_of_one_name(self):
        hall = Hall()
        hall.add_board("a", small_board())
        hall.begin("a", "a", "a", 3, 4, 5, "north")
        self.assertEqual((hall.boards(), hall.games()), (("a",), ("a",)))
        self.assertEqual(hall.standing("a"), ("a", 3, 4, 5, "north"))
        hall.drop("a")
        self.assertEqual((hall.boards(), hall.games()), (("a",), ()))


class BoardsTest(Case):
    def test_the_board_of_a_name(self):
        hall, left, right = Hall(), small_board(), great_board()
        hall.add_board("l", left)
        hall.add_board("r", right)
        self.assertIs(hall.board_of("l"), left)
        self.assertIs(hall.board_of("r"), right)

    def test_no_names(self):
        hall = small_hall()
        before = everything(hall)
        for text in NO_NAMES:
            self.assert_refused(BadName, hall.add_board, text, small_board())
            self.assertEqual(everything(hall), before)

    def test_taken(self):
        hall = small_hall()
        before = everything(hall)
        self.assert_refused(Taken, hall.add_board, "b", great_board())
        self.assertEqual(everything(hall), before)
        hall.add_board("g", small_board())

    def test_a_full_hall(self):
        hall = Hall()
        for number, name in enumerate(BOARD_NAMES):
            self.assertEqual(len(hall.boards()), number)
            hall.add_board(name, small_board())
        before = everything(hall)
        self.assertEqual(hall.boards(), tuple(sorted(BOARD_NAMES)))
        self.assertEqual(len(hall.boards()), 12)
        self.assert_refused(Full, hall.add_board, "a", small_board())
        self.assert_refused(Taken, hall.add_board, "aw", small_board())
        for text in NO_NAMES:
            self.assert_refused(BadName, hall.add_board, text, small_board())
        self.assertEqual(everything(hall), before)
        hall.begin("a", "cz", "a", 3, 4, 5, "north")

    def test_missing(self):
        hall = small_hall()
        for text in NO_NAMES + ("g", "bb", "a"):
            self.assert_refused(Missing, hall.board_of, text)

    def test_a_list_changed_later_changes_nothing(self):
        places, lanes, goals = ["a", "b"], [("a", "b")], []
        hall = Hall()
        hall.add_board("x", Board(places, lanes, goals))
        goals.append("b")
        lanes.append(("b", "a"))
        self.assertEqual(hall.board_of("x").lanes, (("a", "b"),))
        self.assertEqual(hall.judge("x", "a", 3, 4, 5, "north"), "south")


class BeginTest(Case):
    def test_it_begins_as_a_game_does(self):
        hall = Hall()
        hall.add_board("x", small_board())
        hall.add_board("y", board_of("one step"))
        for name, board, standing in (
            ("p", "x", ("a", 3, 4, 5, "north")), ("q", "y", ("a", 2, 3, 1, "south")), ("r", "x", ("c", 0, 0, 0, "north")),
        ):
            hall.begin(name, board, *standing)
            self.assertEqual(told_of(hall, name), all_told(Game(hall.board_of(board), *standing)))

    def test_no_names(self):
        hall = small_hall()
        before = everything(hall)
        for text in NO_NAMES:
            self.assert_refused(BadName, hall.begin, text, "b", "a", 3, 4, 5, "north")
            self.assert_refused(BadName, hall.begin, text, "nope", "z", 31, -1, 5, "nobody")
        self.assertEqual(everything(hall), before)

    def test_taken(self):
        hall = small_hall()
        hall.bid("g", "south", 1)
        before = everything(hall)
        self.assert_refused(Taken, hall.begin, "g", "b", "a", 3, 4, 5, "north")
        self.assert_refused(Taken, hall.begin, "g", "nope", "z", 31, -1, 5, "nobody")
        self.assertEqual(everything(hall), before)

    def test_a_board_of_the_name_is_no_game(self):
        hall = small_hall()
        hall.begin("b", "b", "a", 3, 4, 5, "north")
        self.assertEqual(hall.games(), ("b", "g"))

    def test_missing(self):
        hall = small_hall()
        before = everything(hall)
        for text in NO_NAMES + ("g", "bb"):
            self.assert_refused(Missing, hall.begin, "h", text, "a", 3, 4, 5, "north")
            self.assert_refused(Missing, hall.begin, "h", text, "z", 31, -1, 5, "nobody")
        self.assertEqual(everything(hall), before)

    def test_the_games_own_refusals(self):
        hall = small_hall()
        before = everything(hall)
        for text in NO_PLACES:
            self.assert_refused(NoPlace, hall.begin, "h", "b", text, 31, -1, 5, "nobody")
        for turns, north, south in ((31, 4, 5), (-1, 4, 5), (3, -1, 5), (3, 4, -1), (3, 11, 10), (GREAT, 4, 5)):
            for place in "abcd":
                self.assert_refused(OutOfRange, hall.begin, "h", "b", place, turns, north, south, "nobody")
        for text in NO_HANDS:
            for place in "abcd":
                self.assert_refused(BadHand, hall.begin, "h", "b", place, 3, 4, 5, text)
        self.assertEqual(everything(hall), before)

    def test_the_first_refusal(self):
        hall = small_hall()
        for mix in itertools.product(
            [(BadName, ""), (Taken, "g")],
            [(None, "b"), (Missing, "nope")],
            [(None, "a"), (NoPlace, "z")],
            [(None, 3), (OutOfRange, 31)],
            [(None, 4), (OutOfRange, -1)],
            [(None, 5), (OutOfRange, 21)],
            [(None, "north"), (BadHand, "nobody")],
        ):
            self.assert_refused(mix[0][0], hall.begin, *[argument for kind, argument in mix])
            kinds = [kind for kind, argument in mix[1:] if kind is not None]
            if kinds:
                self.assert_refused(kinds[0], hall.begin, "h", *[argument for kind, argument in mix[1:]])
        self.assertEqual(hall.games(), ("g",))

    def test_a_full_hall(self):
        hall = Hall()
        hall.add_board("b", small_board())
        for number, name in enumerate(GAME_NAMES):
            self.assertEqual(len(hall.games()), number)
            hall.begin(name, "b", "a", 3, 4, 5, "north")
        self.assertEqual(len(hall.games()), 20)
        before = everything(hall)
        self.assert_refused(Full, hall.begin, "a", "b", "a", 3, 4, 5, "north")
        self.assert_refused(Full, hall.begin, "a", "nope", "z", 31, -1, 5, "nobody")
        self.assert_refused(Taken, hall.begin, "aw", "nope", "z", 31, -1, 5, "nobody")
        for text in NO_NAMES:
            self.assert_refused(BadName, hall.begin, text, "b", "a", 3, 4, 5, "north")
        self.assertEqual(everything(hall), before)
        hall.drop("cx")
        hall.begin("a", "b", "a", 3, 4, 5, "north")
        self.assertEqual(hall.games(), tuple(sorted(set(GAME_NAMES) - {"cx"} | {"a"})))
        self.assert_refused(Full, hall.begin, "cx", "b", "a", 3, 4, 5, "north")
        hall.add_board("aw", small_board())


class DropTest(Case):
    def test_a_game_that_is_played(self):
        hall = small_hall()
        hall.bid("g", "south", 1)
        self.assertIsNone(hall.drop("g"))
        self.assertEqual((hall.boards(), hall.games()), (("b",), ()))
        self.assert_refused(Missing, hall.standing, "g")

    def test_a_game_that_ended(self):
        hall = small_hall()
        hall.begin("e", "b", "c", 3, 4, 5, "north")
        hall.drop("e")
        self.assertEqual(hall.games(), ("g",))

    def test_beginning_anew(self):
        hall = small_hall()
        hall.bid("g", "south", 1)
        hall.drop("g")
        hall.begin("g", "b", "a", 2, 1, 1, "south")
        self.assertEqual(hall.standing("g"), ("a", 2, 1, 1, "south"))
        self.assertEqual((hall.deeds("g"), hall.named("g")), ((), None))
        self.assert_refused(NothingDone, hall.back, "g")

    def test_missing(self):
        hall = small_hall()
        before = everything(hall)
        for text in NO_NAMES + ("b", "gg"):
            self.assert_refused(Missing, hall.drop, text)
        self.assertEqual(everything(hall), before)
        hall.drop("g")
        self.assert_refused(Missing, hall.drop, "g")


class GamesOfAHallTest(Case):
    def test_a_whole_game(self):
        hall = small_hall()
        game = Game(small_board(), "b", 3, 4, 5, "north")
        for word, hand, what in (
            ("bid", "south", 2), ("answer", "north", 3), ("step", "north", "a"),
            ("bid", "south", 0), ("answer", "north", 0), ("step", "north", "b"),
            ("bid", "north", 1), ("answer", "south", 0), ("step", "north", "c"),
        ):
            self.assertEqual(getattr(hall, word)("g", hand, what), getattr(game, word)(hand, what))
            self.assertEqual(told_of(hall, "g"), all_told(game))
        self.assertEqual(hall.over("g"), "north")
        while game.deeds():
            self.assertEqual(hall.back("g"), game.back())
            self.assertEqual(told_of(hall, "g"), all_told(game))
        self.assert_refused(NothingDone, hall.back, "g")

    def test_what_comes_back(self):
        hall = small_hall()
        self.assertIsNone(hall.bid("g", "south", 2))
        self.assertEqual(hall.answer("g", "north", 1), "south")
        self.assertIsNone(hall.step("g", "south", "d"))
        self.assertEqual((hall.over("g"), hall.winner("g"), hall.told("g")), ("south", "south", None))
        self.assertEqual(hall.back("g"), ("south", "step", "d"))
        self.assertEqual((hall.due("g"), hall.told("g")), (("south", "step"), ("step", "d")))

    def test_missing_goes_ahead_of_all(self):
        hall = small_hall()
        before = everything(hall)
        for text in NO_NAMES + ("b", "gg", "nope"):
            for question in TELLING + ("back",):
                self.assert_refused(Missing, getattr(hall, question), text)
            for hand in ("south", "north", "nobody"):
                for coins in (0, -1, GREAT):
                    self.assert_refused(Missing, hall.bid, text, hand, coins)
                    self.assert_refused(Missing, hall.answer, text, hand, coins)
                for place in ("a", "z", ""):
                    self.assert_refused(Missing, hall.step, text, hand, place)
        self.assertEqual(everything(hall), before)

    def test_the_games_own_refusals(self):
        hall = small_hall()
        self.check_refused(hall, (
            (NotDue, hall.bid, "north", 99), (NotDue, hall.bid, "nobody", 0), (BadBid, hall.bid, "south", 6),
            (BadBid, hall.bid, "south", -1), (NotDue, hall.answer, "south", 0), (NotDue, hall.step, "south", "z"),
        ))
        self.assert_refused(NothingDone, hall.back, "g")
        hall.bid("g", "south", 2)
        self.check_refused(hall, (
            (NotDue, hall.bid, "south", 0), (BadBid, hall.answer, "north", 5), (BadBid, hall.answer, "north", GREAT),
            (NotDue, hall.answer, "south", 5),
        ))
        hall.answer("g", "north", 2)
        self.check_refused(hall, (
            (NoLane, hall.step, "north", "b"), (NoLane, hall.step, "north", "z"), (NotDue, hall.step, "south", "z"),
        ))
        hall.step("g", "north", "c")
        self.check_refused(hall, (
            (NotDue, hall.bid, "north", 0), (NotDue, hall.answer, "north", 0), (NotDue, hall.step, "north", "a"),
        ))

    def check_refused(self, hall, rows):
        before = everything(hall)
        for kind, deed, hand, what in rows:
            self.assert_refused(kind, deed, "g", hand, what)
            self.assertEqual(everything(hall), before)


class ApartTest(Case):
    def test_two_games_on_one_board(self):
        hall = small_hall()
        hall.begin("h", "b", "b", 3, 4, 5, "north")
        before = told_of(hall, "h")
        hall.bid("g", "south", 1)
        hall.answer("g", "north", 1)
        self.assertEqual(told_of(hall, "h"), before)
        hall.bid("h", "south", 3)
        self.assertEqual(hall.deeds("g"), (("south", "bid", 1), ("north", "answer", 1)))
        self.assertEqual(hall.deeds("h"), (("south", "bid", 3),))
        hall.back("h")
        self.assertEqual(told_of(hall, "h"), before)
        hall.drop("g")
        self.assertEqual(told_of(hall, "h"), before)

    def test_questions_change_nothing(self):
        hall = small_hall()
        hall.bid("g", "south", 1)
        before = everything(hall)
        hall.judge("b", "a", 30, 10, 10, "south")
        hall.least("b", 20, "a", 30, "south")
        self.assertEqual(everything(hall), before)

    def test_two_halls(self):
        board = small_board()
        left, right = Hall(), Hall()
        left.add_board("b", board)
        self.assertEqual(right.boards(), ())
        self.assert_refused(Missing, right.board_of, "b")
        right.add_board("b", board)
        left.begin("g", "b", "b", 3, 4, 5, "north")
        self.assertEqual(right.games(), ())
        right.begin("g", "b", "b", 3, 4, 5, "north")
        before = everything(right)
        left.bid("g", "south", 1)
        left.answer("g", "north", 1)
        self.assertEqual(everything(right), before)
        left.drop("g")
        self.assertEqual(everything(right), before)
        self.assertEqual(left.games(), ())


class JudgeTest(Case):
    def test_against_a_book(self):
        for name in BOARDS:
            hall, board = Hall(), board_of(name)
            hall.add_board("x", board)
            oracle = Backwards(board, 4)
            for place, turns, north, ribbon in itertools.product(board.places, range(4), range(5), HANDS):
                hand = hall.judge("x", place, turns, north, 4 - north, ribbon)
                self.assertEqual(hand, Book(board, 4, 3).winner(place, turns, north, ribbon))
                self.assertEqual(hand, oracle.wins(place, turns, north, ribbon))

    def test_the_greatest_standings(self):
        hall, board = Hall(), great_board()
        hall.add_board("x", board)
        book = Book(board, 20, 30)
        for place, north, ribbon in itertools.product(board.places, (0, 7, 8, 10, 20), HANDS):
            self.assertEqual(
                hall.judge("x", place, 30, north, 20 - north, ribbon), book.winner(place, 30, north, ribbon),
            )

    def test_each_board_is_judged_by_itself(self):
        hall = Hall()
        hall.add_board("x", board_of("only to the goal"))
        hall.add_board("y", board_of("only to a dead end"))
        self.assertEqual(hall.judge("x", "a", 3, 0, 5, "south"), "north")
        self.assertEqual(hall.judge("y", "a", 3, 5, 0, "north"), "south")

    def test_refusals_in_order(self):
        hall = small_hall()
        self.assert_first_refused(hall.judge, (
            [(None, "b"), (Missing, "g"), (Missing, "")],
            [(None, "a"), (None, "c"), (None, "d"), (NoPlace, "z"), (NoPlace, "")],
            [(None, 0), (None, 30), (OutOfRange, -1), (OutOfRange, 31), (OutOfRange, GREAT)],
            [(None, 4), (OutOfRange, -1), (OutOfRange, 21)],
            [(None, 5), (OutOfRange, -1), (OutOfRange, 17), (OutOfRange, -GREAT)],
            [(None, "north"), (None, "south"), (BadHand, "nobody"), (BadHand, "")],
        ))

    def test_coins_together(self):
        hall = small_hall()
        for north, south in ((20, 0), (0, 20), (10, 10), (0, 0)):
            self.assertIn(hall.judge("b", "a", 3, north, south, "north"), HANDS)
        for north, south in ((21, 0), (0, 21), (11, 10), (21, -1), (-1, 21), (GREAT, -GREAT), (-GREAT, GREAT)):
            self.assert_refused(OutOfRange, hall.judge, "b", "a", 3, north, south, "nobody")


class LeastTest(Case):
    def test_against_a_book(self):
        for name in BOARDS:
            hall, board = Hall(), board_of(name)
            hall.add_board("x", board)
            for coins in (0, 1, 4, 7):
                book = Book(board, coins, 4)
                for place, turns, ribbon in itertools.product(board.places, range(5), HANDS):
                    self.assertEqual(hall.least("x", coins, place, turns, ribbon), book.least(place, turns, ribbon))

    def test_the_greatest_sizes(self):
        hall, board = Hall(), great_board()
        hall.add_board("x", board)
        book = Book(board, 20, 30)
        for place, ribbon in itertools.product(board.places, HANDS):
            self.assertEqual(hall.least("x", 20, place, 30, ribbon), book.least(place, 30, ribbon))

    def test_by_hand(self):
        hall = Hall()
        hall.add_board("x", board_of("one step"))
        self.assertEqual(hall.least("x", 4, "a", 1, "north"), 2)
        self.assertEqual(hall.least("x", 4, "a", 1, "south"), 3)
        self.assertEqual(hall.least("x", 4, "g", 1, "south"), 0)
        self.assertIsNone(hall.least("x", 4, "a", 0, "south"))
        self.assert_whole(hall.least("x", 4, "g", 1, "south"))

    def test_refusals_in_order(self):
        hall = small_hall()
        self.assert_first_refused(hall.least, (
            [(None, "b"), (Missing, "g"), (Missing, "")],
            [(None, 0), (None, 20), (OutOfRange, -1), (OutOfRange, 21), (OutOfRange, GREAT), (OutOfRange, -GREAT)],
            [(None, "a"), (None, "c"), (None, "d"), (NoPlace, "z"), (NoPlace, "")],
            [(None, 0), (None, 30), (OutOfRange, -1), (OutOfRange, 31), (OutOfRange, GREAT)],
            [(None, "north"), (None, "south"), (BadHand, "nobody"), (BadHand, "")],
        ))


if __name__ == "__main__":
    unittest.main()
