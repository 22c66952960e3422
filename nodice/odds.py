"""Odds of homes, and mean steps, on boards."""

from nodice.boards import need_board, shut_lot
from nodice.checks import need_integer
from nodice.errors import Misfit
from nodice.pairs import reduced
from nodice.papers import Denial, Paper


class Odds(Paper):
    """A home, and for each place the odds of it from there."""

    def __init__(self, home, shares):
        Paper.__init__(self, "odds", home, shares)
        self.home, self.shares = self.parts


class Steps(Paper):
    """For each place the mean steps from there."""

    def __init__(self, means):
        Paper.__init__(self, "steps", means)
        self.means = self.parts[0]


class Shut(Denial):
    """Places that lead to each other alone."""

    def __init__(self, lot):
        Denial.__init__(self, "shut", lot)
        self.lot = self.parts[0]


def odds(board, home):
    """The Odds of a home, or the Shut of all shut places."""
    need_board(board)
    need_home(board, home)
    lot = shut_lot(board)
    if lot:
        return Shut(lot)
    told = _solved(board, [[row.count(board.places + home)] for row in board.rows])
    return Odds(home, [shares[0] for shares in told])


def mean_steps(board):
    """The Steps of a board, or the Shut of all shut places."""
    need_board(board)
    lot = shut_lot(board)
    if lot:
        return Shut(lot)
    told = _solved(board, [[len(row)] for row in board.rows])
    return Steps([steps[0] for steps in told])


def odds_from(board, place):
    """The odds of all homes from a place."""
    need_board(board)
    need_integer(place, "place", 0, board.places - 1)
    if shut_lot(board):
        raise Misfit("board")
    homes = list(range(board.places, board.places + board.homes))
    return _solved(board, [[row.count(home) for home in homes] for row in board.rows])[place]


def need_home(board, home):
    """Raise BadNumber for no home of a board."""
    need_integer(home, "home", 0, board.homes - 1)


def _solved(board, sides):
    # For each place: its number, as often as its row is long, less the numbers of all its
    # entries that are places, is its side; sides may have several columns.
    rows = [_equation(board, place) + sides[place] for place in range(board.places)]
    last = 1
    for at in range(board.places):
        # No divisor is 0: were all later places homes, no place would be shut, either. And
        # each divides what the next step makes, so all numbers stay integers.
        pivot = rows[at]
        for other in range(board.places):
            if other != at:
                rows[other] = _cleared(rows[other], pivot, at, last)
        last = pivot[at]
    return [tuple([reduced(side, last) for side in row[board.places:]]) for row in rows]


def _equation(board, place):
    row = board.rows[place]
    factors = [-row.count(other) for other in range(board.places)]
    factors[place] += len(row)
    return factors


def _cleared(row, pivot, at, last):
    by, factor = pivot[at], row[at]
    return [(by * one - factor * other) // last for one, other in zip(row, pivot)]
