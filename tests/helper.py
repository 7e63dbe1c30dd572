"""What the tests share."""

import functools
import itertools
import unittest

from bidmover.board import Board

GREAT = 10 ** 5000
NO_HANDS = ("", "North", "SOUTH", "nort", "northh", " north", "south ", "east", "n", "northsouth", "~" * 40)
NO_PLACES = ("", "z", "A", "aa", "a ", " a", "north", "~" * 40)
OTHER = {"north": "south", "south": "north"}

# Places, lanes and goals, in no order.
BOARDS = {
    # On a the ribbon is a burden: its holder must give it away with the turn.
    "small": (
        ["c", "a", "d", "b"],
        [("b", "d"), ("c", "a"), ("b", "c"), ("a", "b"), ("b", "a")],
        ["c"],
    ),
    "one step": (["g", "a", "d"], [("a", "g"), ("a", "d")], ["g"]),
    "only to the goal": (["a", "b"], [("a", "b")], ["b"]),
    "only to a dead end": (["b", "a"], [("a", "b")], []),
    "no goal": (["a", "b", "c"], [("a", "b"), ("b", "c"), ("c", "a"), ("b", "b")], []),
    "all goals": (["a", "b", "c"], [("a", "b"), ("b", "c"), ("c", "a")], ["b", "c", "a"]),
    "no lane": (["a", "b"], [], ["b"]),
    "one place": (["a"], [], []),
    "one place with a lane": (["a"], [("a", "a")], []),
    "one goal with a lane": (["a"], [("a", "a")], ["a"]),
    "lanes to themselves": (
        ["a", "b", "c"],
        [("a", "a"), ("a", "b"), ("b", "b"), ("b", "a"), ("b", "c"), ("c", "c")],
        ["c"],
    ),
    "a line with the goal at one end": (
        ["a", "b", "c", "d", "e"],
        [("a", "b"), ("b", "a"), ("b", "c"), ("c", "b"), ("c", "d"), ("d", "c"), ("d", "e"), ("e", "d")],
        ["e"],
    ),
    "a dead end beside each lane": (
        ["a", "b", "c", "x", "y"],
        [("a", "b"), ("a", "x"), ("b", "c"), ("b", "y")],
        ["c"],
    ),
    "two goals": (
        ["a", "ba", "b", "c", "d"],
        [("b", "a"), ("b", "c"), ("c", "ba"), ("c", "b"), ("ba", "d"), ("c", "d"), ("a", "b")],
        ["d", "a"],
    ),
    "all lanes": (["a", "b", "c"], list(itertools.product("abc", "abc")), ["c"]),
}


class Case(unittest.TestCase):
    def assert_refused(self, kind, call, *arguments):
        """The refusal is of that very class, not of one above or below it."""
        with self.assertRaises(ValueError) as caught:
            call(*arguments)
        self.assertIs(type(caught.exception), kind)

    def assert_first_refused(self, call, choices):
        """Over all mixes of good and bad arguments, the first bad one is the one refused.

        For each argument there is a list of (class or None, argument).
        """
        for mix in itertools.product(*choices):
            arguments = [argument for kind, argument in mix]
            kinds = [kind for kind, argument in mix if kind is not None]
            if kinds:
                self.assert_refused(kinds[0], call, *arguments)
            else:
                call(*arguments)

    def assert_whole(self, number):
        self.assertIs(type(number), int)


def board_of(name):
    places, lanes, goals = BOARDS[name]
    return Board(list(places), list(lanes), list(goals))


def small_board():
    """a and b lead to each other, b to the goal c and on to the dead end d."""
    return board_of("small")


def great_board():
    """12 places and 40 lanes: a ring with three chords from most places, one dead end, one goal."""
    places = list("abcdefghijkl")
    lanes = []
    for jump in (1, 2, 5, 7):
        for number, place in enumerate(places[:10]):
            lanes.append((place, places[(number + jump) % 12]))
    return Board(places, lanes, ["k"])


def bid_bound(north, south, ribbon):
    return south if ribbon == "north" else north


class Backwards:
    """Point 11 as it stands: all bids, answers and steps, worked backwards."""

    def __init__(self, board, coins):
        self.coins = coins
        self.goals = board.goals
        self.ways = {place: sorted(to for at, to in board.lanes if at == place) for place in board.places}
        for question in ("wins", "steps", "answers", "bids"):
            setattr(self, question, functools.cache(getattr(self, question)))

    def ended(self, place, turns):
        if place in self.goals:
            return "north"
        return "south" if turns == 0 or not self.ways[place] else None

    def wins(self, place, turns, north, ribbon):
        hand = self.ended(place, turns)
        if hand is not None:
            return hand
        return OTHER[ribbon] if self.bids(place, turns, north, ribbon) else ribbon

    def steps(self, place, turns, north, ribbon, hand):
        if self.ended(place, turns):
            return []
        return [way for way in self.ways[place] if self.wins(way, turns - 1, north, ribbon) == hand]

    def answers(self, place, turns, north, ribbon, bid):
        if self.ended(place, turns):
            return []
        most = north if ribbon == "north" else self.coins - north
        return [named for named in range(most + 1) if self.answer_wins(place, turns, north, ribbon, bid, named)]

    def answer_wins(self, place, turns, north, ribbon, bid, answer):
        leader = OTHER[ribbon] if bid > answer else ribbon
        price = max(bid, answer)
        behind = north - price if leader == "north" else north + price
        holder = OTHER[ribbon] if bid == answer else ribbon
        has_step = len(self.steps(place, turns, behind, holder, leader)) > 0
        return has_step if leader == ribbon else not has_step

    def bids(self, place, turns, north, ribbon):
        if self.ended(place, turns):
            return []
        most = bid_bound(north, self.coins - north, ribbon)
        return [named for named in range(most + 1) if not self.answers(place, turns, north, ribbon, named)]


def first(found):
    return found[0] if found else None


def all_told(game):
    """All that a game tells."""
    return (
        game.standing(), game.due(), game.named(), game.deeds(), game.over(), game.winner(), game.told(),
    )
