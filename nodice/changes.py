"""What odd chips change of looks."""

from nodice.checks import need_integer
from nodice.looks import LAST_TICK, need_look
from nodice.means import ways_of
from nodice.pairs import halved


def change(look, spot, tick):
    """What an odd chip changes that is sent to the right from a spot at a tick."""
    need_look(look, "look")
    need_integer(spot, "spot", None, None)
    need_integer(tick, "tick", 0, LAST_TICK)
    return _change_at(look, spot, tick)


def changes(look, spot):
    """Pairs (tick, change), ascending, of all ticks at which it isn't 0."""
    need_look(look, "look")
    need_integer(spot, "spot", None, None)
    told = [(tick, _change_at(look, spot, tick)) for tick in range(look.last)]
    return tuple([(tick, share) for tick, share in told if share[0] != 0])


def touched(look):
    """All spots, ascending, from which a chip changes something at some tick."""
    need_look(look, "look")
    return tuple(sorted(change_rows(look)))


def change_rows(look):
    """For each touched spot a list of its changes, times 2 ** last, at all ticks of its colour.

    Entry k is that of the tick 2 k, or 2 k + 1 where the spot is of the look's colour at odd ticks.
    """
    rows = {}
    pulls = {}
    for tick in range(look.last - 1, -1, -1):
        pulls = _pulls_at(look, tick + 1, pulls)
        for at in pulls:
            for spot in (at - 1, at + 1):
                apart = pulls.get(spot + 1, 0) - pulls.get(spot - 1, 0)
                if apart != 0:
                    if spot not in rows:
                        rows[spot] = [0] * ((look.last + 1 - first_tick(look, spot)) // 2)
                    rows[spot][tick // 2] = apart << tick
    return rows


def first_tick(look, spot):
    """The first tick at which a spot is of the look's colour."""
    return (spot + look.colour) % 2


def _change_at(look, spot, tick):
    total = 0
    for at, when, weight in look.rows:
        if when > tick:
            later = when - tick - 1
            rows = ways_of(at - spot - 1, later) - ways_of(at - spot + 1, later)
            total += (weight * rows) << (look.last - when)
    return halved(total, look.last - tick)


def _pulls_at(look, tick, later):
    # A pull is what a chip on a spot at this tick is worth to the look by chance, times
    # 2 ** (last tick - tick); later has those of the tick behind. Row by row all this
    # would be told again for each spot and tick.
    pulls = {}
    for at in later:
        for spot in (at - 1, at + 1):
            pulls[spot] = pulls.get(spot, 0) + later[at]
    for at, when, weight in look.rows:
        if when == tick:
            pulls[at] = pulls.get(at, 0) + (weight << (look.last - tick))
    return pulls
