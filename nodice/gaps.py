"""Gaps: how many chips more lie on a spot than its mean."""

from nodice.checks import need_integer
from nodice.heaps import need_heaps, need_lefts
from nodice.lines import Line
from nodice.means import mean_at, means
from nodice.pairs import less

MOST_TICKS = 60


def gap_at(heaps, lefts, spot, ticks):
    """The gap of a spot behind so many ticks."""
    need_heaps(heaps, "heaps")
    need_lefts(lefts)
    need_integer(spot, "spot", None, None)
    need_integer(ticks, "ticks", 0, MOST_TICKS)
    line = _line_behind(heaps, lefts, ticks)
    return less((line.heap_at(spot), 1), mean_at(heaps, spot, ticks))


def gaps(heaps, lefts, ticks):
    """Pairs (spot, gap), ascending, of all spots whose gap isn't 0."""
    need_heaps(heaps, "heaps")
    need_lefts(lefts)
    need_integer(ticks, "ticks", 0, MOST_TICKS)
    line = _line_behind(heaps, lefts, ticks)
    told = []
    # Where the mean is 0 no chip can come to: no other spots have gaps.
    for spot, mean in means(heaps, ticks):
        gap = less((line.heap_at(spot), 1), mean)
        if gap[0] != 0:
            told.append((spot, gap))
    return tuple(told)


def _line_behind(heaps, lefts, ticks):
    # Here unlike colours are told, as a Line tells them: behind all parameters.
    line = Line(heaps, lefts)
    line.forward(ticks)
    return line
