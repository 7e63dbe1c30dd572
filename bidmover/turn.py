"""A turn: when a standing is ended, and how bid and answer are settled."""

from bidmover.errors import BadBid, OutOfRange
from bidmover.names import check_hand, other

MOST_TURNS = 30
MOST_COINS = 20


# The words of these refusals leave the number out: Python itself refuses to
# write a very great one as a text.
def check_up_to(number, most):
    if number < 0 or number > most:
        raise OutOfRange(f"it goes from 0 to {most}")


def check_coins(north, south):
    if north < 0 or south < 0 or north + south > MOST_COINS:
        raise OutOfRange(f"coins go from 0, both hands' together to {MOST_COINS}")


def check_bid(named, coins):
    if named < 0 or named > coins:
        raise BadBid("a hand names from 0 to all its coins")


def check_standing(board, place, turns, north, south, ribbon):
    board.check_place(place)
    check_up_to(turns, MOST_TURNS)
    check_coins(north, south)
    check_hand(ribbon)


def ended(board, place, turns):
    board.check_place(place)
    check_up_to(turns, MOST_TURNS)
    if board.is_goal(place):
        return "north"
    if turns == 0 or len(board.ways(place)) == 0:
        return "south"
    return None


def coins_of(hand, north, south):
    return north if hand == "north" else south


def pay(hand, price, north, south, ribbon):
    if hand == "north":
        return (hand, north - price, south + price, ribbon)
    return (hand, north + price, south - price, ribbon)


def settle(north, south, ribbon, bid, answer):
    check_coins(north, south)
    bidder = other(ribbon)
    check_bid(bid, coins_of(bidder, north, south))
    check_bid(answer, coins_of(ribbon, north, south))
    if bid > answer:
        return pay(bidder, bid, north, south, ribbon)
    if answer > bid:
        return pay(ribbon, answer, north, south, ribbon)
    return pay(ribbon, answer, north, south, bidder)
