"""Games: where one stands, the deeds that led there, and who is due to what."""

from bidmover.book import Book
from bidmover.errors import NoLane, NotDue, NothingDone
from bidmover.names import other
from bidmover.turn import check_bid, check_standing, coins_of, ended, settle


# A game at one time: its standing, who is due to what, and the bid that was
# heard. It is never changed: a deed makes a new one, so that taking the deed
# back is to go back to the one before.
class Moment:
    def __init__(self, place, turns, north, south, ribbon, hand, word, heard):
        self.place = place
        self.turns = turns
        self.north = north
        self.south = south
        self.ribbon = ribbon
        self.hand = hand
        self.word = word
        self.heard = heard


def turn_begin(board, place, turns, north, south, ribbon):
    if ended(board, place, turns) is not None:
        return Moment(place, turns, north, south, ribbon, None, None, None)
    return Moment(place, turns, north, south, ribbon, other(ribbon), "bid", None)


def told_by(book, now):
    if now.word == "bid":
        return book.bid_of(now.place, now.turns, now.north, now.ribbon)
    if now.word == "answer":
        return book.answer_of(now.place, now.turns, now.north, now.ribbon, now.heard)
    return book.step_of(now.place, now.turns, now.north, now.ribbon, now.hand)


class Game:
    def __init__(self, board, place, turns, north, south, ribbon):
        check_standing(board, place, turns, north, south, ribbon)
        self.board = board
        # Coins only change hands, so one book serves the whole game.
        self.book = Book(board, north + south, turns)
        self.done = []
        self.moments = [turn_begin(board, place, turns, north, south, ribbon)]

    def standing(self):
        now = self.moments[-1]
        return (now.place, now.turns, now.north, now.south, now.ribbon)

    def due(self):
        now = self.moments[-1]
        return None if now.word is None else (now.hand, now.word)

    def named(self):
        return self.moments[-1].heard

    def deeds(self):
        return tuple(self.done)

    def over(self):
        now = self.moments[-1]
        return ended(self.board, now.place, now.turns)

    def winner(self):
        now = self.moments[-1]
        if now.word is None:
            return self.over()
        # A deed is told just where the hand that is due has a winning one.
        return other(now.hand) if self.told() is None else now.hand

    def told(self):
        now = self.moments[-1]
        if now.word is None:
            return None
        what = told_by(self.book, now)
        return None if what is None else (now.word, what)

    def check_due(self, hand, word):
        if self.due() != (hand, word):
            raise NotDue(f"{hand!r} is not due to {word}")

    def go_on(self, deed, moment):
        self.done.append(deed)
        self.moments.append(moment)

    def bid(self, hand, coins):
        self.check_due(hand, "bid")
        now = self.moments[-1]
        check_bid(coins, coins_of(hand, now.north, now.south))
        behind = Moment(now.place, now.turns, now.north, now.south, now.ribbon, now.ribbon, "answer", coins)
        self.go_on((hand, "bid", coins), behind)

    def answer(self, hand, coins):
        self.check_due(hand, "answer")
        now = self.moments[-1]
        settled = settle(now.north, now.south, now.ribbon, now.heard, coins)
        leader = settled[0]
        behind = Moment(now.place, now.turns, settled[1], settled[2], settled[3], leader, "step", None)
        self.go_on((hand, "answer", coins), behind)
        return leader

    def step(self, hand, place):
        self.check_due(hand, "step")
        now = self.moments[-1]
        if place not in self.board.ways(now.place):
            raise NoLane(f"no lane leads to {place!r} from here")
        behind = turn_begin(self.board, place, now.turns - 1, now.north, now.south, now.ribbon)
        self.go_on((hand, "step", place), behind)

    def back(self):
        if len(self.done) == 0:
            raise NothingDone("no deed stands")
        self.moments.pop()
        return self.done.pop()
