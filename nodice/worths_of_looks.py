"""What looks come to for starts: worths, means and gaps."""

from nodice.errors import Misfit
from nodice.heaps import need_heaps, need_lefts
from nodice.lines import Line
from nodice.looks import need_look
from nodice.means import chips_by_rows
from nodice.pairs import halved, less


def look_worth(look, heaps, lefts):
    """The worth of a look for a start."""
    need_look(look, "look")
    need_heaps(heaps, "heaps")
    need_lefts(lefts)
    need_look_colour(look, heaps)
    line = Line(heaps, lefts)
    worth = 0
    for spot, tick, weight in look.rows:
        line.forward(tick - line.tick)
        worth += weight * line.heap_at(spot)
    return worth


def look_mean(look, heaps):
    """The mean of a look for heaps."""
    need_look(look, "look")
    need_heaps(heaps, "heaps")
    need_look_colour(look, heaps)
    total = 0
    for spot, tick, weight in look.rows:
        total += (weight * chips_by_rows(heaps, spot, tick)) << (look.last - tick)
    return halved(total, look.last)


def look_gap(look, heaps, lefts):
    """The worth of a look for a start less its mean."""
    worth = look_worth(look, heaps, lefts)
    return less((worth, 1), look_mean(look, heaps))


def need_look_colour(look, heaps):
    """Raise Misfit unless the spots of all heaps are of the look's colour."""
    if any([spot % 2 != look.colour for spot, _ in heaps]):
        raise Misfit("colour")
