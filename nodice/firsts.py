"""First shares: chance comes to a spot for the first time at just some tick."""

from nodice.checks import need_integer
from nodice.means import ways_of
from nodice.pairs import added, halved, multiplied

MOST_FAR = 400
MOST_TICKS = 200


def first_share(far, ticks):
    """Chance's first share of far and ticks."""
    need_integer(far, "far", 1, MOST_FAR)
    need_integer(ticks, "ticks", 0, MOST_FAR)
    if far > ticks:
        return (0, 1)
    # Of the rows that end there, far of each ticks come there at the last step first.
    return halved(far * ways_of(far, ticks) // ticks, ticks)


def best_ticks(far, most):
    """The ticks, most at most, at which the first share of far is greatest."""
    need_integer(far, "far", 1, MOST_FAR)
    need_integer(most, "most", 0, MOST_FAR)
    if far > most:
        return ()
    best = _first_best(far, most)
    if 3 * best + 4 == far * far and best + 2 <= most:
        return (best, best + 2)
    return (best,)


def reach(ticks):
    """How far a heap can be from its mean behind so many ticks."""
    total = (0, 1)
    for share in reach_rows(ticks):
        total = added(total, share)
    return multiplied((2, 1), total)


def reach_rows(ticks):
    """For each far from 1 to ticks the greatest first share up to these ticks."""
    need_integer(ticks, "ticks", 0, MOST_TICKS)
    return tuple([first_share(far, _first_best(far, ticks)) for far in range(1, ticks + 1)])


def _first_best(far, most):
    # From one tick to the next but one first shares do not fall just if 3 ticks + 4 is
    # at most far times far; so they rise, and then fall for ever.
    ticks = far
    while ticks + 2 <= most and 3 * ticks + 4 < far * far:
        ticks += 2
    return ticks
