"""The hall: boards and games, each kept under its name."""

from bidmover.book import Book
from bidmover.errors import BadName, Full, Missing, Taken
from bidmover.game import Game
from bidmover.names import good_name
from bidmover.turn import MOST_TURNS, check_standing

MOST_BOARDS = 12
MOST_GAMES = 20


def check_new(name, kept, most):
    if not good_name(name):
        raise BadName(f"{name!r} is no name")
    if name in kept:
        raise Taken(f"{name!r} is taken")
    if len(kept) >= most:
        raise Full(f"at most {most} are kept")


def find_kept(name, kept):
    if name not in kept:
        raise Missing(f"nothing is kept under {name!r}")
    return kept[name]


class Hall:
    def __init__(self):
        self.kept_boards = {}
        self.kept_games = {}

    def add_board(self, name, board):
        check_new(name, self.kept_boards, MOST_BOARDS)
        self.kept_boards[name] = board

    def board_of(self, name):
        return find_kept(name, self.kept_boards)

    def begin(self, name, board_name, place, turns, north, south, ribbon):
        check_new(name, self.kept_games, MOST_GAMES)
        board = self.board_of(board_name)
        self.kept_games[name] = Game(board, place, turns, north, south, ribbon)

    def game_of(self, name):
        return find_kept(name, self.kept_games)

    def drop(self, name):
        self.game_of(name)
        self.kept_games.pop(name)

    def boards(self):
        return tuple(sorted(self.kept_boards))

    def games(self):
        return tuple(sorted(self.kept_games))

    def standing(self, name):
        return self.game_of(name).standing()

    def due(self, name):
        return self.game_of(name).due()

    def named(self, name):
        return self.game_of(name).named()

    def deeds(self, name):
        return self.game_of(name).deeds()

    def over(self, name):
        return self.game_of(name).over()

    def winner(self, name):
        return self.game_of(name).winner()

    def told(self, name):
        return self.game_of(name).told()

    def bid(self, name, hand, coins):
        self.game_of(name).bid(hand, coins)

    def answer(self, name, hand, coins):
        return self.game_of(name).answer(hand, coins)

    def step(self, name, hand, place):
        self.game_of(name).step(hand, place)

    def back(self, name):
        return self.game_of(name).back()

    def judge(self, board_name, place, turns, north, south, ribbon):
        board = self.board_of(board_name)
        check_standing(board, place, turns, north, south, ribbon)
        return Book(board, north + south, turns).winner(place, turns, north, ribbon)

    def least(self, board_name, coins, place, turns, ribbon):
        # A book of the most turns, not of these: so the place is looked at
        # ahead of the turns, as the arguments stand.
        return Book(self.board_of(board_name), coins, MOST_TURNS).least(place, turns, ribbon)
