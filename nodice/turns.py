"""Signs by turns: the greatest and the least sums of chosen numbers."""

from nodice.checks import is_fraction, is_integer
from nodice.errors import BadNumber
from nodice.pairs import over_one_down, reduced
from nodice.papers import Paper

MOST_NUMBERS = 60


class Turns(Paper):
    """A greatest sum by turns, the indexes of the chosen numbers, and the first one's sign."""

    def __init__(self, total, picks, sign):
        Paper.__init__(self, "turns", total, picks, sign)
        self.total, self.picks, self.sign = self.parts


def greatest_turns(numbers):
    """The Turns of the greatest sum by turns of fractions."""
    need_numbers(numbers)
    values, down = over_one_down(numbers)
    kept, turned = best_sums(values)
    sign = 1 if kept >= turned else -1
    return Turns(reduced(max(kept, turned), down), picks_from(values, sign), sign)


def turns_from(numbers, sign):
    """The pair of the least and the greatest sum of fractions from this first sign."""
    need_numbers(numbers)
    if not is_sign(sign):
        raise BadNumber("sign")
    values, down = over_one_down(numbers)
    least, greatest = sums_from(values, sign)
    return (reduced(least, down), reduced(greatest, down))


def best_sums(values):
    """The greatest sums of integers from the signs 1 and -1."""
    return _best_sums_behind(values)[0]


def sums_from(values, sign):
    """The least and the greatest sum of integers from this first sign."""
    kept, turned = best_sums(values)
    # A least sum, turned over, is a greatest one from the other sign.
    if sign == 1:
        return (-turned, kept)
    return (-kept, turned)


def picks_from(values, sign):
    """The indexes, ascending, of integers chosen for the greatest sum from this first sign."""
    behind = _best_sums_behind(values)
    picks = []
    for index, value in enumerate(values):
        kept, turned = behind[index + 1]
        without, later = (kept, turned) if sign == 1 else (turned, kept)
        if sign * value + later > without:
            picks.append(index)
            sign = -sign
    return picks


def is_sign(value):
    """Whether a value is 1 or -1."""
    return is_integer(value) and value in (1, -1)


def need_numbers(numbers):
    """Raise BadNumber for what is no list of 0 to 60 fractions."""
    if not isinstance(numbers, (list, tuple)) or len(numbers) > MOST_NUMBERS:
        raise BadNumber("numbers")
    if not all([is_fraction(number) for number in numbers]):
        raise BadNumber("numbers")


def _best_sums_behind(values):
    # From the end on: entry k has the greatest sums, from the signs 1 and -1, of what
    # can be chosen among the values from index k on.
    sums = [(0, 0)]
    for value in reversed(values):
        kept, turned = sums[-1]
        sums.append((max(kept, value + turned), max(turned, kept - value)))
    return sums[::-1]
