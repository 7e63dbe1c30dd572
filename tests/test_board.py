"""[5] What a board is made of, [6] what it tells; [1] and [2] as far as boards go."""

import itertools
import unittest

from bidmover.board import MOST_LANES, MOST_PLACES, Board
from bidmover.errors import BadName, NoPlace, OutOfRange, Twice
from helper import Case, small_board

TWELVE = list("abcdefghijkl")
THIRTEEN = list("abcdefghijklm")
STRANGERS = ("z", "", "A", "aa", "a ", "abcdefg", "~" * 40)

# The refusals of [5] in their order: what each spoils in a good board.
REFUSALS = (
    ("no place", OutOfRange),
    ("too many places", OutOfRange),
    ("bad name", BadName),
    ("place twice", Twice),
    ("too many lanes", OutOfRange),
    ("stranger in a lane", NoPlace),
    ("lane twice", Twice),
    ("stranger among the goals", NoPlace),
    ("goal twice", Twice),
)


def some_lanes(many):
    return list(itertools.product(TWELVE, TWELVE))[:many]


def spoiled(faults):
    """The lists of a board with just these faults (no place at all hides the other faults of places)."""
    places, lanes, goals = list("abcdefghi"), [("a", "b"), ("b", "c")], ["c"]
    if "too many places" in faults:
        places += list("jklm")
    if "bad name" in faults:
        places.append("B")
    if "place twice" in faults:
        places.append("a")
    if "too many lanes" in faults:
        lanes = list(itertools.product(places[:9], places[:9]))[:41]
    if "stranger in a lane" in faults:
        lanes.append(("a", "z"))
    if "lane twice" in faults:
        lanes.append(lanes[0])
    if "stranger among the goals" in faults:
        goals.append("z")
    if "goal twice" in faults:
        goals.append("c")
    if "no place" in faults:
        places = []
    return places, lanes, goals


class MadeTest(Case):
    def test_bounds(self):
        self.assertEqual((MOST_PLACES, MOST_LANES), (12, 40))

    def test_one_place(self):
        board = Board(["a"], [], [])
        self.assertEqual((board.places, board.lanes, board.goals), (("a",), (), ()))

    def test_the_most_places_and_lanes(self):
        lanes = some_lanes(40)
        board = Board(TWELVE, lanes, TWELVE)
        self.assertEqual(board.places, tuple(TWELVE))
        self.assertEqual(board.lanes, tuple(lanes))
        self.assertEqual(board.goals, tuple(TWELVE))

    def test_names_of_one_to_six_signs(self):
        self.assertEqual(Board(["harbor", "z"], [], []).places, ("harbor", "z"))

    def test_a_lane_to_itself_and_lanes_both_ways(self):
        board = Board(["b", "a"], [("b", "a"), ("a", "b"), ("a", "a")], [])
        self.assertEqual(board.lanes, (("a", "a"), ("a", "b"), ("b", "a")))

    def test_two_lanes_into_one_place_and_two_out_of_one(self):
        lanes = [("a", "b"), ("a", "c"), ("b", "c")]
        self.assertEqual(Board(["a", "b", "c"], lanes, []).lanes, tuple(lanes))


class RefusedTest(Case):
    def test_numbers_of_places(self):
        self.assert_refused(OutOfRange, Board, [], [], [])
        self.assert_refused(OutOfRange, Board, THIRTEEN, [], [])
        self.assert_refused(OutOfRange, Board, ["a"] * 13, [], [])

    def test_number_of_lanes(self):
        self.assert_refused(OutOfRange, Board, TWELVE, some_lanes(41), [])
        self.assert_refused(OutOfRange, Board, ["a"], [("a", "a")] * 41, [])

    def test_names(self):
        for text in ("", "abcdefg", "A", "a1", " ", "`", "{", "a b"):
            with self.subTest(text):
                self.assert_refused(BadName, Board, ["a", text, "b"], [], [])
                self.assert_refused(BadName, Board, [text], [], [])

    def test_places_twice(self):
        self.assert_refused(Twice, Board, ["a", "b", "a"], [], [])
        self.assert_refused(Twice, Board, ["a", "b", "b"], [], [])

    def test_ends_of_lanes(self):
        for text in STRANGERS:
            with self.subTest(text):
                self.assert_refused(NoPlace, Board, ["a", "b"], [("a", "b"), (text, "a")], [])
                self.assert_refused(NoPlace, Board, ["a", "b"], [("a", text), ("a", "b")], [])

    def test_lanes_twice(self):
        self.assert_refused(Twice, Board, ["a", "b"], [("a", "b"), ("b", "a"), ("a", "b")], [])
        self.assert_refused(Twice, Board, ["a"], [("a", "a"), ("a", "a")], [])

    def test_goals(self):
        for text in STRANGERS:
            with self.subTest(text):
                self.assert_refused(NoPlace, Board, ["a", "b"], [], ["a", text])
        self.assert_refused(Twice, Board, ["a", "b"], [], ["b", "a", "b"])

    def test_each_refusal_looks_over_the_whole_list_ahead_of_the_next(self):
        self.assert_refused(BadName, Board, ["a", "a", "A"], [], [])
        self.assert_refused(NoPlace, Board, ["a"], [("a", "a"), ("a", "a"), ("a", "z")], [])
        self.assert_refused(NoPlace, Board, ["a"], [], ["a", "a", "z"])
        self.assert_refused(Twice, Board, ["a", "a"], [("z", "z")], ["z"])

    def test_each_refusal_alone(self):
        for fault, kind in REFUSALS:
            with self.subTest(fault):
                self.assert_refused(kind, Board, *spoiled([fault]))

    def test_of_two_refusals_the_earlier_one_holds(self):
        for (fault, kind), (later, later_kind) in itertools.combinations(REFUSALS, 2):
            with self.subTest(first=fault, second=later):
                self.assert_refused(kind, Board, *spoiled([fault, later]))

    def test_the_lists_of_a_refused_board_stay(self):
        for fault, kind in REFUSALS:
            lists, again = spoiled([fault]), spoiled([fault])
            self.assert_refused(kind, Board, *lists)
            self.assertEqual(lists, again)


class ToldTest(Case):
    def test_all_orders_of_the_lists_make_the_same_board(self):
        places, lanes, goals = ["b", "ba", "c"], [("b", "ba"), ("b", "c"), ("ba", "b"), ("c", "b")], ["b", "ba", "c"]
        for row in itertools.permutations(places):
            for way in itertools.permutations(lanes):
                board = Board(list(row), list(way), list(row))
                self.assertEqual(board.places, tuple(places))
                self.assertEqual(board.lanes, tuple(lanes))
                self.assertEqual(board.goals, tuple(goals))
                self.assertEqual(board.ways("b"), ("ba", "c"))

    def test_rows_are_tuples(self):
        board = small_board()
        rows = (board.places, board.lanes, board.goals, board.ways("b"), board.ways("d"))
        for row in rows + board.lanes:
            self.assertIs(type(row), tuple)

    def test_ways(self):
        board = small_board()
        told = [(place, board.ways(place)) for place in board.places]
        self.assertEqual(told, [("a", ("b",)), ("b", ("a", "c", "d")), ("c", ("a",)), ("d", ())])

    def test_ways_of_a_lane_to_itself(self):
        self.assertEqual(Board(["a", "b"], [("a", "b"), ("a", "a")], []).ways("a"), ("a", "b"))

    def test_goals(self):
        board = small_board()
        self.assertEqual([board.is_goal(place) for place in "abcd"], [False, False, True, False])
        for place in "abcd":
            self.assertIs(type(board.is_goal(place)), bool)

    def test_no_goal_and_all_goals(self):
        for place in TWELVE:
            self.assertIs(Board(TWELVE, [], []).is_goal(place), False)
            self.assertIs(Board(TWELVE, [], TWELVE).is_goal(place), True)

    def test_strangers(self):
        board = small_board()
        for text in STRANGERS:
            with self.subTest(text):
                self.assert_refused(NoPlace, board.ways, text)
                self.assert_refused(NoPlace, board.is_goal, text)
        self.assertEqual(board.places, ("a", "b", "c", "d"))


class ApartTest(Case):
    def setUp(self):
        self.places = ["c", "b", "a"]
        self.lanes = [("c", "a"), ("a", "c"), ("a", "b")]
        self.goals = ["c", "b"]
        self.board = Board(self.places, self.lanes, self.goals)

    def assert_as_it_was(self, board):
        self.assertEqual(board.places, ("a", "b", "c"))
        self.assertEqual(board.lanes, (("a", "b"), ("a", "c"), ("c", "a")))
        self.assertEqual(board.goals, ("b", "c"))
        self.assertEqual(board.ways("a"), ("b", "c"))
        self.assertEqual(board.ways("b"), ())
        self.assertEqual([board.is_goal(place) for place in "abc"], [False, True, True])

    def test_lists_that_are_handed_in_stay(self):
        self.assertEqual(self.places, ["c", "b", "a"])
        self.assertEqual(self.lanes, [("c", "a"), ("a", "c"), ("a", "b")])
        self.assertEqual(self.goals, ["c", "b"])

    def test_lists_that_change_later_change_nothing(self):
        self.places.append("d")
        self.lanes.append(("b", "d"))
        self.goals[:] = ["d", "a"]
        self.assert_as_it_was(self.board)
        self.assert_refused(NoPlace, self.board.ways, "d")
        for changed in (self.places, self.lanes, self.goals):
            changed.clear()
        self.assert_as_it_was(self.board)

    def test_boards_made_twice_are_apart(self):
        twin = Board(self.places, self.lanes, self.goals)
        self.assertIsNot(twin, self.board)
        self.places.append("d")
        grown = Board(self.places, self.lanes + [("b", "d")], ["d"])
        self.assertEqual(grown.ways("b"), ("d",))
        self.assertIs(grown.is_goal("c"), False)
        self.assert_as_it_was(twin)
        self.assert_as_it_was(self.board)


if __name__ == "__main__":
    unittest.main()
