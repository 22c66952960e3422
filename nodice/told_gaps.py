"""Gaps of looks, told by odd heaps."""

from nodice.changes import change_rows
from nodice.checks import need_integer
from nodice.heaps import need_heaps, need_lefts, need_one_colour
from nodice.lines import Line
from nodice.looks import need_look
from nodice.pairs import halved
from nodice.papers import Paper
from nodice.worths_of_looks import need_look_colour

MOST_TICKS = 60


class Gap(Paper):
    """The gap of a look, and the odd heaps that it comes of."""

    def __init__(self, gap, chips):
        Paper.__init__(self, "gap", gap, chips)
        self.gap, self.chips = self.parts


def odd_heaps(heaps, lefts, ticks):
    """For each tick below ticks the pairs (spot, way), ascending, of its odd heaps."""
    need_heaps(heaps, "heaps")
    need_lefts(lefts)
    need_integer(ticks, "ticks", 0, MOST_TICKS)
    need_one_colour(heaps)
    line = Line(heaps, lefts)
    rows = []
    for _ in range(ticks):
        rows.append(_odd_now(line))
        line.advance()
    return tuple(rows)


def told_gap(look, heaps, lefts):
    """The Gap of a look for a start."""
    need_look(look, "look")
    need_heaps(heaps, "heaps")
    need_lefts(lefts)
    need_look_colour(look, heaps)
    changed = _changed_by(look, heaps, lefts)
    total = sum([rise for _, rise in changed])
    return Gap(halved(total, look.last), [chip for chip, _ in changed])


def counts_of(look, heaps, lefts, spot):
    """What one spot adds to the gap of a look for a start."""
    need_look(look, "look")
    need_heaps(heaps, "heaps")
    need_lefts(lefts)
    need_integer(spot, "spot", None, None)
    need_look_colour(look, heaps)
    total = sum([rise for chip, rise in _changed_by(look, heaps, lefts) if chip[0] == spot])
    return halved(total, look.last)


def _changed_by(look, heaps, lefts):
    # Pairs of (spot, tick, way), and what this odd heap adds to the gap times 2 ** last.
    changes = change_rows(look)
    found = []
    for tick, row in enumerate(odd_heaps(heaps, lefts, look.last)):
        for spot, way in row:
            if spot in changes and changes[spot][tick // 2] != 0:
                found.append(((spot, tick, way), way * changes[spot][tick // 2]))
    return found


def _odd_now(line):
    # A line may have thousands of heaps and lefts: the lefts are looked up in a dict.
    lefts = {spot: True for spot in line.lefts}
    return tuple([(spot, -1 if spot in lefts else 1) for spot, many in line.heaps if many % 2])
