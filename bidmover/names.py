"""Names of places, boards and games, and the two hands."""

from bidmover.errors import BadHand

HANDS = ("north", "south")
MOST_SIGNS = 6


def good_name(text):
    if len(text) < 1 or len(text) > MOST_SIGNS:
        return False
    return all(["a" <= sign <= "z" for sign in text])


def check_hand(hand):
    if hand not in HANDS:
        raise BadHand(f"{hand!r} is no hand")


def other(hand):
    check_hand(hand)
    return "south" if hand == "north" else "north"
