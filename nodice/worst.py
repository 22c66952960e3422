"""Worst starts: those that bring a look as far above its mean as can be."""

from nodice.changes import change_rows, first_tick
from nodice.errors import Misfit, TooMany
from nodice.heaps import MOST_HEAPS, need_lefts
from nodice.looks import need_look
from nodice.papers import Paper
from nodice.turns import best_sums, picks_from
from nodice.wishes import granting_heaps

FARTHEST_LOOK = 999900
MOST_WIDE = 118


class Worst(Paper):
    """A worst start."""

    def __init__(self, heaps, lefts):
        Paper.__init__(self, "worst", heaps, lefts)
        self.heaps, self.lefts = self.parts


def worst_start(look):
    """The Worst of a worst start of a look."""
    need_look(look, "look")
    _need_room(look)
    rows = change_rows(look)
    return _worst_with(look, rows, [spot for spot in sorted(rows) if _goes_left_first(rows[spot])])


def worst_by(look, lefts):
    """The Worst of a worst start of a look by lefts."""
    need_look(look, "look")
    need_lefts(lefts)
    _need_room(look)
    return _worst_with(look, change_rows(look), sorted(list(lefts)))


def _need_room(look):
    low, high = _outermost(look)
    if low < -FARTHEST_LOOK or high > FARTHEST_LOOK:
        raise Misfit("look")
    if high - low + 2 * look.last > MOST_WIDE:
        raise TooMany("heaps", MOST_HEAPS)


def _outermost(look):
    spots = [row[0] for row in look.rows]
    return min(spots), max(spots)


def _goes_left_first(row):
    kept, turned = best_sums(row)
    return turned > kept


def _worst_with(look, rows, lefts):
    turned = {spot: True for spot in lefts}
    wished = {}
    for spot, row in rows.items():
        for index in picks_from(row, -1 if spot in turned else 1):
            wished[spot, first_tick(look, spot) + 2 * index] = True
    # Farther off than there are ticks left nothing can come to the look.
    low, high = _outermost(look)
    windows = [(low - left, high + left) for left in range(look.last, 0, -1)]
    return Worst(granting_heaps(lefts, wished, look.colour, windows), lefts)
