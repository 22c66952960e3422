"""Reaches of looks: how far starts can bring them from their means."""

from nodice.changes import change_rows
from nodice.heaps import need_lefts
from nodice.looks import need_look
from nodice.pairs import halved
from nodice.turns import best_sums, sums_from


def reach_of(look):
    """The reach of a look."""
    need_look(look, "look")
    rows = change_rows(look)
    total = 0
    for row in rows.values():
        total += max(best_sums(row))
    return halved(total, look.last)


def reach_by(look, lefts):
    """The reaches of a look by lefts, the least one first."""
    need_look(look, "look")
    need_lefts(lefts)
    rows = change_rows(look)
    turned = {spot: True for spot in lefts}
    low = high = 0
    for spot, row in rows.items():
        least, greatest = sums_from(row, -1 if spot in turned else 1)
        low += least
        high += greatest
    return (halved(low, look.last), halved(high, look.last))
