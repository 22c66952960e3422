"""Whether a Turns is right."""

from nodice.checks import is_fraction, is_integer
from nodice.pairs import over_one_down, reduced
from nodice.turns import Turns, best_sums, is_sign, need_numbers


def shows_turns(numbers, value):
    """Whether a value is a Turns whose picks come to its total, the greatest sum by turns."""
    need_numbers(numbers)
    if not isinstance(value, Turns) or value.__class__.__name__ != "Turns":
        return False
    if not is_fraction(value.total) or not _are_picks(value.picks, len(numbers)) or not is_sign(value.sign):
        return False
    values, down = over_one_down(numbers)
    total = _sum_by_turns(values, value.picks, value.sign)
    return total == max(best_sums(values)) and value.total == reduced(total, down)


def _are_picks(picks, many):
    if not isinstance(picks, tuple) or not all([is_integer(pick) for pick in picks]):
        return False
    bounds = [-1, *picks, many]
    return all([one < other for one, other in zip(bounds, bounds[1:])])


def _sum_by_turns(values, picks, sign):
    total = 0
    for pick in picks:
        total += sign * values[pick]
        sign = -sign
    return total
