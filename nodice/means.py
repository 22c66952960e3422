"""Chance's shares, and the means of spots."""

from math import comb

from nodice.checks import need_integer
from nodice.heaps import need_heaps, need_one_colour
from nodice.pairs import halved

MOST_FAR = 400
MOST_TICKS = 200


def share_of(far, ticks):
    """Chance's share of being far to the right behind so many ticks."""
    need_integer(far, "far", -MOST_FAR, MOST_FAR)
    need_integer(ticks, "ticks", 0, MOST_FAR)
    return halved(ways_of(far, ticks), ticks)


def mean_at(heaps, spot, ticks):
    """The mean of a spot behind so many ticks."""
    need_heaps(heaps, "heaps")
    need_integer(spot, "spot", None, None)
    need_integer(ticks, "ticks", 0, MOST_TICKS)
    need_one_colour(heaps)
    return halved(chips_by_rows(heaps, spot, ticks), ticks)


def means(heaps, ticks):
    """Pairs (spot, mean), ascending, of all spots whose mean isn't 0."""
    need_heaps(heaps, "heaps")
    need_integer(ticks, "ticks", 0, MOST_TICKS)
    need_one_colour(heaps)
    ways = [comb(ticks, right) for right in range(ticks + 1)]
    chips = {}
    for start, many in heaps:
        for right, rows in enumerate(ways):
            spot = start - ticks + 2 * right
            chips[spot] = chips.get(spot, 0) + many * rows
    return tuple([(spot, halved(chips[spot], ticks)) for spot in sorted(chips)])


def ways_of(far, ticks):
    """How many of all rows of so many steps end so far to the right."""
    if far < -ticks or far > ticks or (far + ticks) % 2:
        return 0
    return comb(ticks, (ticks + far) // 2)


def chips_by_rows(heaps, spot, ticks):
    """The mean of a spot times 2 ** ticks: each chip is counted once for each row that ends there."""
    return sum([many * ways_of(spot - start, ticks) for start, many in heaps])
