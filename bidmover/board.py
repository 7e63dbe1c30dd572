"""Boards: places, the lanes between them, and the goals among them."""

from bidmover.errors import BadName, NoPlace, OutOfRange, Twice
from bidmover.names import good_name

MOST_PLACES = 12
MOST_LANES = 40


def check_each_once(things):
    if len(set(things)) < len(things):
        raise Twice("one of them stands twice")


def check_among(place, places):
    if place not in places:
        raise NoPlace(f"{place!r} is not among the places")


# Each refusal has a loop of its own: it is looked at over the whole list
# ahead of the next one.
def check_places(places):
    if len(places) < 1 or len(places) > MOST_PLACES:
        raise OutOfRange(f"a board has 1 to {MOST_PLACES} places")
    for place in places:
        if not good_name(place):
            raise BadName(f"{place!r} is no name")
    check_each_once(places)


def check_lanes(lanes, places):
    if len(lanes) > MOST_LANES:
        raise OutOfRange(f"a board has at most {MOST_LANES} lanes")
    for lane in lanes:
        check_among(lane[0], places)
        check_among(lane[1], places)
    check_each_once(lanes)


def check_goals(goals, places):
    for goal in goals:
        check_among(goal, places)
    check_each_once(goals)


class Board:
    def __init__(self, places, lanes, goals):
        check_places(places)
        check_lanes(lanes, places)
        check_goals(goals, places)
        # Tuples, so that a list its owner changes later changes nothing here.
        self.places = tuple(sorted(places))
        self.lanes = tuple(sorted(lanes))
        self.goals = tuple(sorted(goals))

    def check_place(self, place):
        check_among(place, self.places)

    def ways(self, place):
        self.check_place(place)
        return tuple([lane[1] for lane in self.lanes if lane[0] == place])

    def is_goal(self, place):
        self.check_place(place)
        return place in self.goals
