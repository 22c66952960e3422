"""Whether Odds, Steps and Shut are right."""

from nodice.boards import need_board, shut_lot
from nodice.checks import is_fraction, is_integer, is_within
from nodice.odds import Odds, Shut, Steps, need_home
from nodice.pairs import added, multiplied


def shows_odds(board, home, value):
    """Whether a value is the Odds of a home, or a Shut of places that lead to each other alone."""
    need_board(board)
    need_home(board, home)
    if _is_shut(value):
        return _is_shut_lot(board, value.lot)
    if not isinstance(value, Odds) or value.__class__.__name__ != "Odds":
        return False
    if not is_integer(value.home) or value.home != home:
        return False
    ends = [(1, 1) if other == home else (0, 1) for other in range(board.homes)]
    return _are_means(board, value.shares, ends, 0)


def shows_steps(board, value):
    """Whether a value is the Steps of a board, or a Shut of places that lead to each other alone."""
    need_board(board)
    if _is_shut(value):
        return _is_shut_lot(board, value.lot)
    if not isinstance(value, Steps) or value.__class__.__name__ != "Steps":
        return False
    return _are_means(board, value.means, [(0, 1)] * board.homes, 1)


def _is_shut(value):
    return isinstance(value, Shut) and value.__class__.__name__ == "Shut"


def _is_shut_lot(board, lot):
    if not isinstance(lot, tuple) or not lot:
        return False
    if not all([is_within(place, 0, board.places - 1) for place in lot]):
        return False
    if len(set(lot)) < len(lot):
        return False
    return all([entry in lot for place in lot for entry in board.rows[place]])


def _are_means(board, shares, ends, more):
    # Where places are shut other numbers are means, too: none of them is right.
    if shut_lot(board) or not isinstance(shares, tuple) or len(shares) != board.places:
        return False
    if not all([is_fraction(share) for share in shares]):
        return False
    numbers = [*shares, *ends]
    return all([_is_mean(shares[place], row, numbers, more) for place, row in enumerate(board.rows)])


def _is_mean(share, row, numbers, more):
    total = (more * len(row), 1)
    for entry in row:
        total = added(total, numbers[entry])
    return multiplied((len(row), 1), share) == total
