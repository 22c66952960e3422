"""Worths of hands on boards, and how far wins can be from their odds."""

from nodice.boards import need_board
from nodice.checks import need_integer
from nodice.errors import Misfit
from nodice.odds import Shut, need_home, odds
from nodice.pairs import less, multiplied, over_one_down, reduced
from nodice.papers import Paper
from nodice.worlds import MOST_STEPS, World, need_place, need_world

MOST_PLAYS = 200


class Bound(Paper):
    """A home, its odds from each place, the span of each place, and the bound."""

    def __init__(self, home, shares, spans, total):
        Paper.__init__(self, "bound", home, shares, spans, total)
        self.home, self.shares, self.spans, self.total = self.parts


def worths(board, home):
    """For each place the worths of its hand, entry by entry."""
    need_board(board)
    need_home(board, home)
    numbers, down = _numbers_of(board, home, _shares_of(board, home, "board"))
    return tuple([tuple([reduced(worth, down) for worth in row]) for row in _worth_rows(board, numbers)])


def told_bound(board, home):
    """The Bound of a home."""
    need_board(board)
    need_home(board, home)
    shares = _shares_of(board, home, "board")
    numbers, down = _numbers_of(board, home, shares)
    spans = [(min(row), max(row)) for row in _worth_rows(board, numbers)]
    total = sum([high - low for low, high in spans])
    told = [(reduced(low, down), reduced(high, down)) for low, high in spans]
    return Bound(home, shares, told, reduced(total, down))


def kept(world, home):
    """The odds of where all walkers stand, and the worths of all hands, added."""
    need_world(world)
    need_home(world.board, home)
    numbers, down = _numbers_of(world.board, home, _shares_of(world.board, home, "world"))
    total = sum([numbers[entry] for entry in world.walkers])
    for row, hand in zip(_worth_rows(world.board, numbers), world.hands):
        total += row[hand]
    return reduced(total, down)


def plays(board, hands, place, many, most):
    """The homes to which so many plays from a place lead, one behind another."""
    world = World(board, hands)
    need_place(board, place)
    need_integer(many, "many", 0, MOST_PLAYS)
    need_integer(most, "most", 1, MOST_STEPS)
    return tuple(_homes_of(world, place, many, most))


def gap_after(board, hands, place, home, many):
    """The wins of a home behind so many plays from a place, less many times its odds."""
    world = World(board, hands)
    need_place(board, place)
    need_home(board, home)
    need_integer(many, "many", 0, MOST_PLAYS)
    shares = _shares_of(board, home, "board")
    wins = _homes_of(world, place, many, MOST_STEPS).count(home)
    return less((wins, 1), multiplied((many, 1), shares[place]))


def _homes_of(world, place, many, most):
    homes = []
    for _ in range(many):
        homes.append(world.play(place, most))
    return homes


def _shares_of(board, home, part):
    told = odds(board, home)
    if isinstance(told, Shut):
        raise Misfit(part)
    return told.shares


def _numbers_of(board, home, shares):
    # The odds of the home from each place, and from each home, as integers over one divisor.
    ends = [(1, 1) if other == home else (0, 1) for other in range(board.homes)]
    return over_one_down([*shares, *ends])


def _worth_rows(board, numbers):
    rows = []
    for place, row in enumerate(board.rows):
        worth = 0
        told = []
        for entry in row:
            told.append(worth)
            worth += numbers[place] - numbers[entry]
        rows.append(told)
    return rows
