"""What the program refuses: one class for each refusal."""


class BidmoverError(ValueError):
    pass


class BadName(BidmoverError):
    pass


class BadHand(BidmoverError):
    pass


class OutOfRange(BidmoverError):
    pass


class Twice(BidmoverError):
    pass


class NoPlace(BidmoverError):
    pass


class BadBid(BidmoverError):
    pass


class NoLane(BidmoverError):
    pass


class NotDue(BidmoverError):
    pass


class NothingDone(BidmoverError):
    pass


class Taken(BidmoverError):
    pass


class Full(BidmoverError):
    pass


class Missing(BidmoverError):
    pass
