"""Pictures of lines, films of starts, sheets of looks."""

from nodice.changes import change_rows, first_tick
from nodice.checks import need_integer
from nodice.heaps import need_heaps, need_lefts
from nodice.lines import Line, hand_at, need_line
from nodice.looks import need_look

MOST_WIDE = 119
MOST_TICKS = 60


def picture(line, low, high):
    """A sign for each spot of a line from low to high."""
    need_line(line)
    _need_spots(low, high)
    return "".join([_sign_of_heap(line, spot) for spot in range(low, high + 1)])


def film(heaps, lefts, low, high, ticks):
    """The pictures of a start at the ticks from 0 to ticks."""
    need_heaps(heaps, "heaps")
    need_lefts(lefts)
    _need_spots(low, high)
    need_integer(ticks, "ticks", 0, MOST_TICKS)
    # Here unlike colours are told, as a Line tells them: behind all parameters.
    line = Line(heaps, lefts)
    pictures = [picture(line, low, high)]
    for _ in range(ticks):
        line.advance()
        pictures.append(picture(line, low, high))
    return tuple(pictures)


def look_sheet(look, low, high):
    """For each tick of a look a row with a sign for each spot from low to high."""
    need_look(look, "look")
    _need_spots(low, high)
    weights = {(spot, tick): weight for spot, tick, weight in look.rows}
    changes = change_rows(look)
    rows = []
    for tick in range(look.last + 1):
        signs = []
        for spot in range(low, high + 1):
            if (spot, tick) in weights:
                signs.append(_sign_of(weights[spot, tick], "-.+"))
            else:
                signs.append(_sign_of(_changed_by(look, changes, spot, tick), "<.>"))
        rows.append("".join(signs))
    return tuple(rows)


def _need_spots(low, high):
    need_integer(low, "low", None, None)
    need_integer(high, "high", low, low + MOST_WIDE)


def _sign_of_heap(line, spot):
    many = line.heap_at(spot)
    if many == 0:
        return "."
    if many % 2 == 0:
        return "="
    return _sign_of(hand_at(line, spot), "<.>")


def _sign_of(number, signs):
    # One sign for numbers below 0, one for 0, one for those above.
    if number < 0:
        return signs[0]
    if number == 0:
        return signs[1]
    return signs[2]


def _changed_by(look, changes, spot, tick):
    # What an odd chip changes, times a number above 0.
    if spot not in changes or tick == look.last or (tick - first_tick(look, spot)) % 2:
        return 0
    return changes[spot][tick // 2]
