"""[15] to [19] Games; [1], [2], [4], [6], [7], [10], [11] and [14] as far as games go."""

import itertools
import unittest

from bidmover.board import Board
from bidmover.errors import BadBid, BadHand, NoLane, NoPlace, NotDue, NothingDone, OutOfRange
from bidmover.game import Game
from bidmover.names import HANDS
from helper import (
    BOARDS, GREAT, NO_HANDS, NO_PLACES, OTHER, Backwards, Case, all_told, board_of, first, great_board, small_board,
)

WORDS = ("bid", "answer", "step")


def do(game, hand, word, what):
    return {"bid": game.bid, "answer": game.answer, "step": game.step}[word](hand, what)


def open_deeds(game, board):
    """Each deed that the hand that is due may do."""
    place, turns, north, south, ribbon = game.standing()
    if game.due() is None:
        return []
    hand, word = game.due()
    if word == "step":
        return [(hand, word, way) for way in board.ways(place)]
    return [(hand, word, coins) for coins in range((north if hand == "north" else south) + 1)]


class BeginTest(Case):
    def test_a_game_that_is_played(self):
        for ribbon in HANDS:
            game = Game(small_board(), "a", 3, 4, 5, ribbon)
            self.assertEqual(game.standing(), ("a", 3, 4, 5, ribbon))
            self.assertEqual(game.due(), (OTHER[ribbon], "bid"))
            self.assertEqual((game.named(), game.deeds(), game.over()), (None, (), None))

    def test_an_ended_begin(self):
        for place, turns, hand in (("c", 3, "north"), ("c", 0, "north"), ("d", 3, "south"), ("a", 0, "south")):
            for ribbon in HANDS:
                game = Game(small_board(), place, turns, 4, 5, ribbon)
                standing = (place, turns, 4, 5, ribbon)
                self.assertEqual(all_told(game), (standing, None, None, (), hand, hand, None))

    def test_bounds(self):
        board = small_board()
        for turns, north, south in ((0, 0, 0), (30, 20, 0), (30, 0, 20), (1, 10, 10), (30, 0, 0)):
            for ribbon in HANDS:
                game = Game(board, "a", turns, north, south, ribbon)
                self.assertEqual(game.standing(), ("a", turns, north, south, ribbon))

    def test_places(self):
        for text in NO_PLACES:
            self.assert_refused(NoPlace, Game, small_board(), text, 3, 4, 5, "north")

    def test_turns(self):
        for turns in (-1, 31, 10 ** 20, GREAT, -GREAT):
            for place in "abcd":
                self.assert_refused(OutOfRange, Game, small_board(), place, turns, 4, 5, "north")

    def test_coins(self):
        pairs = (
            (-1, 5), (5, -1), (21, 0), (0, 21), (11, 10), (10, 11), (-1, 21), (21, -1), (GREAT, 0), (0, GREAT),
            (GREAT, -GREAT), (-GREAT, GREAT), (-GREAT, 0), (0, -GREAT),
        )
        for north, south in pairs:
            for place in "abcd":
                self.assert_refused(OutOfRange, Game, small_board(), place, 3, north, south, "north")

    def test_ribbon(self):
        for text in NO_HANDS:
            for place in "abcd":
                self.assert_refused(BadHand, Game, small_board(), place, 3, 4, 5, text)

    def test_the_first_bad_argument_is_the_one_refused(self):
        self.assert_first_refused(Game, (
            [(None, small_board())],
            [(None, "a"), (None, "c"), (NoPlace, "z"), (NoPlace, "")],
            [(None, 3), (None, 0), (OutOfRange, -1), (OutOfRange, 31)],
            [(None, 4), (OutOfRange, -1), (OutOfRange, 21)],
            [(None, 5), (OutOfRange, -1), (OutOfRange, 17)],
            [(None, "north"), (None, "south"), (BadHand, "nobody")],
        ))


class TurnTest(Case):
    """What a game tells ahead of and behind each deed."""

    def test_north_bids_and_wins_the_turn(self):
        game = Game(board_of("one step"), "a", 2, 3, 1, "south")
        begin = ("a", 2, 3, 1, "south")
        self.assertEqual(all_told(game), (begin, ("north", "bid"), None, (), None, "north", ("bid", 2)))

        self.assertIsNone(game.bid("north", 2))
        done = (("north", "bid", 2),)
        self.assertEqual(all_told(game), (begin, ("south", "answer"), 2, done, None, "north", None))

        self.assertEqual(game.answer("south", 1), "north")
        done += (("south", "answer", 1),)
        paid = ("a", 2, 1, 3, "south")
        self.assertEqual(all_told(game), (paid, ("north", "step"), None, done, None, "north", ("step", "g")))

        self.assertIsNone(game.step("north", "g"))
        done += (("north", "step", "g"),)
        self.assertEqual(all_told(game), (("g", 1, 1, 3, "south"), None, None, done, "north", "north", None))

    def test_south_answers_with_more(self):
        game = Game(board_of("one step"), "a", 2, 3, 2, "south")
        game.bid("north", 1)
        self.assertEqual(game.told(), ("answer", 1))
        self.assertEqual(game.winner(), "south")
        self.assertEqual(game.answer("south", 2), "south")
        self.assertEqual(game.standing(), ("a", 2, 5, 0, "south"))
        self.assertEqual(game.due(), ("south", "step"))
        self.assertEqual((game.winner(), game.told()), ("south", ("step", "d")))
        game.step("south", "d")
        self.assertEqual(game.standing(), ("d", 1, 5, 0, "south"))
        self.assertEqual((game.due(), game.over(), game.winner(), game.told()), (None, "south", "south", None))

    def test_an_equal_answer_hands_the_ribbon_over(self):
        game = Game(small_board(), "a", 3, 4, 5, "north")
        self.assertEqual(game.due(), ("south", "bid"))
        game.bid("south", 3)
        self.assertEqual(game.standing(), ("a", 3, 4, 5, "north"))
        self.assertEqual(game.answer("north", 3), "north")
        self.assertEqual(game.standing(), ("a", 3, 1, 8, "south"))
        self.assertEqual(game.due(), ("north", "step"))
        game.step("north", "b")
        self.assertEqual(game.standing(), ("b", 2, 1, 8, "south"))
        self.assertEqual((game.due(), game.named(), game.over()), (("north", "bid"), None, None))

    def test_nothing_named_by_both(self):
        game = Game(small_board(), "a", 3, 0, 0, "north")
        game.bid("south", 0)
        self.assertEqual(game.named(), 0)
        self.assert_whole(game.named())
        self.assertEqual(game.answer("north", 0), "north")
        self.assertIsNone(game.named())
        self.assertEqual(game.standing(), ("a", 3, 0, 0, "south"))

    def test_a_bid_that_nothing_answers(self):
        game = Game(small_board(), "b", 3, 4, 5, "north")
        game.bid("south", 5)
        self.assertEqual((game.winner(), game.told()), ("south", None))
        game.answer("north", 4)
        self.assertEqual(game.standing(), ("b", 3, 9, 0, "north"))
        self.assertEqual((game.winner(), game.told()), ("south", ("step", "d")))

    def test_a_step_that_loses(self):
        game = Game(small_board(), "b", 3, 5, 4, "north")
        game.bid("south", 4)
        game.answer("north", 4)
        self.assertEqual((game.winner(), game.told()), ("north", ("step", "c")))
        game.step("north", "d")
        self.assertEqual((game.over(), game.winner()), ("south", "south"))

    def test_a_leader_without_a_winning_step(self):
        game = Game(board_of("only to the goal"), "a", 3, 0, 5, "south")
        self.assertEqual((game.winner(), game.told()), ("north", ("bid", 0)))
        game.bid("north", 0)
        self.assertEqual((game.winner(), game.told()), ("north", None))
        self.assertEqual(game.answer("south", 2), "south")
        self.assertEqual((game.due(), game.winner(), game.told()), (("south", "step"), "north", None))

    def test_the_last_turn(self):
        game = Game(small_board(), "a", 1, 9, 0, "south")
        self.assertEqual((game.winner(), game.told()), ("south", None))
        game.bid("north", 1)
        game.answer("south", 0)
        game.step("north", "b")
        self.assertEqual(game.standing(), ("b", 0, 8, 1, "south"))
        self.assertEqual((game.due(), game.over()), (None, "south"))

    def test_the_goal_at_the_last_turn(self):
        game = Game(board_of("one step"), "a", 1, 1, 0, "north")
        game.bid("south", 0)
        game.answer("north", 0)
        game.step("north", "g")
        self.assertEqual((game.standing(), game.over()), (("g", 0, 1, 0, "south"), "north"))

    def test_a_lane_to_itself(self):
        game = Game(board_of("one place with a lane"), "a", 2, 1, 1, "north")
        for left in (1, 0):
            game.bid(game.due()[0], 0)
            game.answer(game.due()[0], 0)
            game.step(game.due()[0], "a")
            self.assertEqual(game.standing()[:2], ("a", left))
        self.assertEqual(game.over(), "south")

    def test_told_rows_are_tuples_that_stay(self):
        game = Game(small_board(), "b", 3, 4, 5, "north")
        begin, none_yet = game.standing(), game.deeds()
        game.bid("south", 1)
        one = game.deeds()
        for row in (game.standing(), game.due(), one, one[0]):
            self.assertIs(type(row), tuple)
        game.answer("north", 1)
        self.assertIs(type(game.told()), tuple)
        self.assertEqual((begin, none_yet, one), (("b", 3, 4, 5, "north"), (), (("south", "bid", 1),)))


class DeedRefusedTest(Case):
    def games_at_each_time(self):
        """A game where a bid, an answer, a step is due, one that ended, and two that began ended."""
        for ribbon in HANDS:
            game = Game(small_board(), "b", 3, 4, 5, ribbon)
            yield game
            game.bid(game.due()[0], 2)
            yield game
            game.answer(game.due()[0], 3)
            yield game
            game.step(game.due()[0], "a")
            yield game
            game.bid(game.due()[0], 0)
            game.answer(game.due()[0], 0)
            game.step(game.due()[0], "b")
            yield game
            game.bid(game.due()[0], 0)
            yield game
            game.answer(game.due()[0], 0)
            game.step(game.due()[0], "c")
            yield game
            yield Game(small_board(), "d", 3, 4, 5, ribbon)
            yield Game(small_board(), "a", 0, 4, 5, ribbon)

    def test_whoever_is_not_due(self):
        whats = {
            "bid": (0, 1, -1, 6, 21, GREAT, -GREAT), "answer": (0, 1, -1, 6, 21, GREAT, -GREAT),
            "step": ("a", "b", "c", "d", "z", "", "~" * 40),
        }
        for game in self.games_at_each_time():
            before = all_told(game)
            for hand, word in itertools.product(HANDS + NO_HANDS, WORDS):
                if (hand, word) != game.due():
                    for what in whats[word]:
                        self.assert_refused(NotDue, do, game, hand, word, what)
                        self.assertEqual(all_told(game), before)

    def test_bids_and_answers_beyond_the_hands_coins(self):
        for game in self.games_at_each_time():
            if game.due() is not None and game.due()[1] != "step":
                before = all_told(game)
                hand, word = game.due()
                coins = before[0][2 if hand == "north" else 3]
                for what in (-1, -2, coins + 1, coins + 2, 21, GREAT, -GREAT):
                    self.assert_refused(BadBid, do, game, hand, word, what)
                    self.assertEqual(all_told(game), before)

    def test_all_coins_are_a_good_bid_and_answer(self):
        game = Game(small_board(), "b", 3, 4, 5, "north")
        game.bid("south", 5)
        game.answer("north", 4)
        self.assertEqual(game.standing(), ("b", 3, 9, 0, "north"))

    def test_steps_along_no_lane(self):
        for game in self.games_at_each_time():
            if game.due() is not None and game.due()[1] == "step":
                before = all_told(game)
                for text in ("b",) + NO_PLACES:
                    self.assert_refused(NoLane, game.step, game.due()[0], text)
                    self.assertEqual(all_told(game), before)

    def test_a_lane_leads_one_way(self):
        game = Game(small_board(), "a", 3, 4, 5, "north")
        game.bid("south", 0)
        game.answer("north", 0)
        for place in "acd":
            self.assert_refused(NoLane, game.step, "north", place)
        game.step("north", "b")

    def test_the_game_goes_on_behind_a_refusal(self):
        game = Game(small_board(), "b", 3, 4, 5, "north")
        self.assert_refused(BadBid, game.bid, "south", 6)
        game.bid("south", 1)
        self.assert_refused(BadBid, game.answer, "north", 5)
        game.answer("north", 1)
        self.assert_refused(NoLane, game.step, "north", "z")
        game.step("north", "c")
        self.assertEqual(game.deeds(), (("south", "bid", 1), ("north", "answer", 1), ("north", "step", "c")))
        self.assertEqual(game.over(), "north")


class BackTest(Case):
    def play(self, game):
        """A whole game, with what was told ahead of each deed."""
        told = []
        for hand, word, what in (
            ("south", "bid", 2), ("north", "answer", 3), ("north", "step", "a"),
            ("south", "bid", 0), ("north", "answer", 0), ("north", "step", "b"),
            ("north", "bid", 1), ("south", "answer", 0), ("north", "step", "c"),
        ):
            told.append(all_told(game))
            do(game, hand, word, what)
        return told

    def test_down_to_the_begin(self):
        game = Game(small_board(), "b", 5, 4, 5, "north")
        told = self.play(game)
        self.assertEqual(game.over(), "north")
        done = game.deeds()
        for ahead, deed in zip(reversed(told), reversed(done)):
            self.assertEqual(game.back(), deed)
            self.assertEqual(all_told(game), ahead)
        self.assert_refused(NothingDone, game.back)
        self.assert_refused(NothingDone, game.back)
        self.assertEqual(all_told(game), told[0])

    def test_on_again_from_there(self):
        game = Game(small_board(), "b", 5, 4, 5, "north")
        told = self.play(game)
        behind = all_told(game)
        for count in range(1, 10):
            for again in range(count):
                game.back()
            for hand, word, what in behind[3][9 - count:]:
                do(game, hand, word, what)
            self.assertEqual(all_told(game), behind)
        while game.deeds():
            game.back()
        self.assertEqual(self.play(game), told)

    def test_another_way_from_there(self):
        game = Game(small_board(), "b", 5, 4, 5, "north")
        self.play(game)
        self.assertEqual(game.back(), ("north", "step", "c"))
        game.step("north", "d")
        self.assertEqual((game.over(), game.deeds()[-1]), ("south", ("north", "step", "d")))
        game.back()
        self.assertEqual(game.back(), ("south", "answer", 0))
        self.assertEqual(game.named(), 1)
        self.assertEqual(game.answer("south", 1), "south")
        self.assertEqual(game.deeds()[-2:], (("north", "bid", 1), ("south", "answer", 1)))

    def test_nothing_done(self):
        for place, turns in (("a", 3), ("c", 3), ("d", 3), ("a", 0)):
            game = Game(small_board(), place, turns, 4, 5, "north")
            before = all_told(game)
            self.assert_refused(NothingDone, game.back)
            self.assertEqual(all_told(game), before)

    def test_the_longest_game(self):
        game = Game(board_of("one place with a lane"), "a", 30, 10, 10, "north")
        told = []
        while game.over() is None:
            hand, word = game.due()
            told.append(all_told(game))
            do(game, hand, word, "a" if word == "step" else len(told) % 2)
        self.assertEqual((len(told), game.over()), (90, "south"))
        while told:
            game.back()
            self.assertEqual(all_told(game), told.pop())
        self.assert_refused(NothingDone, game.back)


class EveryPlayTest(Case):
    """All plays from small standings, each time against point 11 worked backwards."""

    def begins(self):
        for name in BOARDS:
            board = board_of(name)
            for place, turns, north, ribbon in itertools.product(board.places, (0, 1, 2), range(3), HANDS):
                yield board, (place, turns, north, 2 - north, ribbon)
        for ribbon in HANDS:
            yield small_board(), ("a", 3, 1, 2, ribbon)
            yield board_of("lanes to themselves"), ("a", 3, 2, 1, ribbon)

    def test_what_is_told(self):
        for board, standing in self.begins():
            oracle = Backwards(board, standing[2] + standing[3])
            self.walk(Game(board, *standing), board, oracle)

    def walk(self, game, board, oracle):
        self.check_told(game, oracle)
        before = all_told(game)
        for deed in open_deeds(game, board):
            do(game, *deed)
            self.assertEqual(game.deeds(), before[3] + (deed,))
            self.walk(game, board, oracle)
            self.assertEqual(game.back(), deed)
            self.assertEqual(all_told(game), before)

    def check_told(self, game, oracle):
        place, turns, north, south, ribbon = game.standing()
        self.assertEqual(north + south, oracle.coins)
        for number in (turns, north, south):
            self.assert_whole(number)
        if game.due() is None:
            hand = oracle.ended(place, turns)
            self.assertIsNotNone(hand)
            self.assertEqual((game.over(), game.winner(), game.told()), (hand, hand, None))
            return
        self.assertIsNone(game.over())
        self.assertIsNone(oracle.ended(place, turns))
        hand, word = game.due()
        found = self.winning_deeds(game, oracle)
        self.assertEqual(game.winner(), hand if found else OTHER[hand])
        self.assertEqual(game.told(), (word, first(found)) if found else None)

    def winning_deeds(self, game, oracle):
        place, turns, north, south, ribbon = game.standing()
        hand, word = game.due()
        if word == "bid":
            self.assertEqual((hand, game.named()), (OTHER[ribbon], None))
            return oracle.bids(place, turns, north, ribbon)
        if word == "answer":
            self.assertEqual(hand, ribbon)
            self.assert_whole(game.named())
            return oracle.answers(place, turns, north, ribbon, game.named())
        self.assertIsNone(game.named())
        return oracle.steps(place, turns, north, ribbon, hand)


class ToldDeedsWinTest(Case):
    def follow(self, game, board, hero):
        """Hero keeps to the told deeds, the other hand does each deed it can."""
        self.assertEqual(game.winner(), hero)
        if game.due() is None:
            self.assertEqual(game.over(), hero)
            return
        deeds = open_deeds(game, board)
        if game.due()[0] == hero:
            deeds = [(hero,) + game.told()]
        for deed in deeds:
            do(game, *deed)
            self.follow(game, board, hero)
            game.back()

    def test_against_every_play(self):
        for name in BOARDS:
            board = board_of(name)
            for place, north, ribbon in itertools.product(board.places, range(4), HANDS):
                game = Game(board, place, 3, north, 3 - north, ribbon)
                self.follow(game, board, game.winner())

    def test_from_each_time_on(self):
        """The first deeds are any; then whoever is told to win keeps to the told ones."""
        board = small_board()
        for bid, answer in itertools.product(range(3), range(4)):
            game = Game(board, "b", 3, 3, 2, "north")
            self.follow(game, board, game.winner())
            game.bid("south", bid)
            self.follow(game, board, game.winner())
            game.answer("north", answer)
            self.follow(game, board, game.winner())

    def test_a_great_game(self):
        board = great_board()
        for place, north, ribbon, choice in itertools.product("ajl", (0, 9, 10, 20), HANDS, range(4)):
            game = Game(board, place, 30, north, 20 - north, ribbon)
            self.play_on(game, board, game.winner(), choice)

    def play_on(self, game, board, hero, choice):
        while game.due() is not None:
            self.assertEqual(game.winner(), hero)
            deeds = open_deeds(game, board)
            deed = deeds[(choice * 7 + len(game.deeds())) % len(deeds)]
            if game.due()[0] == hero:
                deed = (hero,) + game.told()
            do(game, *deed)
            self.assertEqual(game.standing()[2] + game.standing()[3], 20)
        self.assertEqual(game.over(), hero)


class ApartTest(Case):
    def test_two_games_on_one_board(self):
        board = small_board()
        left, right = Game(board, "a", 3, 4, 5, "north"), Game(board, "a", 3, 4, 5, "north")
        before = all_told(right)
        left.bid("south", 1)
        left.answer("north", 2)
        left.step("north", "b")
        self.assertEqual(all_told(right), before)
        right.bid("south", 2)
        self.assertEqual(left.deeds()[0], ("south", "bid", 1))
        self.assertEqual(right.deeds(), (("south", "bid", 2),))
        right.back()
        self.assertEqual(len(left.deeds()), 3)

    def test_the_board_stays(self):
        board = small_board()
        before = (board.places, board.lanes, board.goals)
        game = Game(board, "a", 3, 4, 5, "north")
        game.bid("south", 1)
        game.answer("north", 2)
        game.step("north", "b")
        game.back()
        self.assertEqual((board.places, board.lanes, board.goals), before)

    def test_a_list_changed_later_changes_nothing(self):
        places, lanes, goals = ["a", "b"], [("a", "b")], []
        game = Game(Board(places, lanes, goals), "a", 3, 4, 5, "north")
        goals.append("b")
        lanes.append(("a", "a"))
        self.assertEqual(game.winner(), "south")
        game.bid("south", 0)
        game.answer("north", 0)
        self.assert_refused(NoLane, game.step, "north", "a")
        game.step("north", "b")
        self.assertEqual(game.over(), "south")

    def test_asking_changes_nothing(self):
        game = Game(small_board(), "a", 3, 4, 5, "north")
        self.assertEqual(all_told(game), all_told(game))
        game.bid("south", 1)
        self.assertEqual(all_told(game), all_told(game))


if __name__ == "__main__":
    unittest.main()
