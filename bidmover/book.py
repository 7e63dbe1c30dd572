"""Books: who wins from each standing, and by which bids, answers and steps."""

from bidmover.names import HANDS, check_hand, other
from bidmover.turn import MOST_COINS, MOST_TURNS, check_bid, check_up_to, coins_of, ended, settle


class Book:
    def __init__(self, board, coins, turns):
        check_up_to(coins, MOST_COINS)
        check_up_to(turns, MOST_TURNS)
        self.board = board
        self.coins = coins
        self.turns = turns
        # For each number of turns left: north's least coins by place and
        # holder. Where all the coins are too few, one more than all stands
        # there, so that it is compared and halved like any other need.
        self.needs = []
        for left in range(turns + 1):
            self.needs.append(self.needs_with(left))

    def needs_with(self, turns):
        row = {}
        for place in self.board.places:
            for ribbon in HANDS:
                row[(place, ribbon)] = self.need_at(place, turns, ribbon)
        return row

    # Behind a bid either north leads, having paid it, or south leads, and north
    # has got it. As the bidder north wins by a bid that leaves it enough both
    # ways, as the holder it loses by one that leaves it too little both ways:
    # twice its coins against both needs together tells whether there is one.
    # A bid of 0 never wins the turn, so there the holder's lead alone counts.
    def need_at(self, place, turns, ribbon):
        victor = ended(self.board, place, turns)
        if victor is not None:
            return 0 if victor == "north" else self.coins + 1
        leading = self.need_where_north_leads(place, turns)
        led = self.need_where_south_leads(place, turns)
        if ribbon == "north":
            return max(leading, (leading + led) // 2)
        return min(led, (leading + led + 1) // 2)

    # Whoever wins a turn without paying more than it must leaves the ribbon
    # with the other hand: a winning bidder never gets it, and a holder who
    # answers with just the bid hands it over.
    def need_where_north_leads(self, place, turns):
        behind = self.needs[turns - 1]
        return min([behind[(way, "south")] for way in self.board.ways(place)])

    def need_where_south_leads(self, place, turns):
        behind = self.needs[turns - 1]
        return max([behind[(way, "north")] for way in self.board.ways(place)])

    def check_share(self, place, turns, north, ribbon):
        self.board.check_place(place)
        check_up_to(turns, self.turns)
        check_up_to(north, self.coins)
        check_hand(ribbon)

    def winner(self, place, turns, north, ribbon):
        self.check_share(place, turns, north, ribbon)
        return "north" if north >= self.needs[turns][(place, ribbon)] else "south"

    def least(self, place, turns, ribbon):
        # All the coins are a good share of every book.
        self.check_share(place, turns, self.coins, ribbon)
        need = self.needs[turns][(place, ribbon)]
        return None if need > self.coins else need

    def bid_of(self, place, turns, north, ribbon):
        victor = self.winner(place, turns, north, ribbon)
        if victor == ribbon or ended(self.board, place, turns) is not None:
            return None
        # The holder may answer with just the bid and lead: then north must
        # have got enough for it, or must have paid too much for its own lead.
        if ribbon == "south":
            return max(0, self.need_where_south_leads(place, turns) - north)
        return max(0, north - self.need_where_north_leads(place, turns) + 1)

    def answer_of(self, place, turns, north, ribbon, bid):
        self.check_share(place, turns, north, ribbon)
        south = self.coins - north
        check_bid(bid, coins_of(other(ribbon), north, south))
        if ended(self.board, place, turns) is not None:
            return None
        # Below the bid all answers do the same. Above it they cost at least a
        # coin more to keep the ribbon, which is worth a coin at most.
        for answer in (0, bid):
            if answer <= coins_of(ribbon, north, south):
                if self.answer_wins(place, turns, settle(north, south, ribbon, bid, answer), ribbon):
                    return answer
        return None

    def answer_wins(self, place, turns, settled, holder):
        leader = settled[0]
        step = self.step_of(place, turns, settled[1], settled[3], leader)
        if leader == holder:
            return step is not None
        return step is None

    def step_of(self, place, turns, north, ribbon, hand):
        self.check_share(place, turns, north, ribbon)
        check_hand(hand)
        if ended(self.board, place, turns) is not None:
            return None
        for way in self.board.ways(place):
            if self.winner(way, turns - 1, north, ribbon) == hand:
                return way
        return None
