"""Wishes: which heaps shall be odd, and starts that grant it."""

from math import comb

from nodice.checks import are_integers, is_within, need_integer
from nodice.errors import BadNumber, Misfit
from nodice.heaps import need_heaps, need_lefts, need_one_colour
from nodice.lines import sent_on
from nodice.told_gaps import odd_heaps

FARTHEST_LOW = 999900
MOST_WIDE = 80
MOST_TICKS = 10


def start_for(lefts, wish, colour, low, high, ticks):
    """Heaps, ascending, that grant a wish."""
    need_wish(lefts, wish, colour, low, high, ticks)
    wished = {(spot, tick): True for spot, tick in wish}
    return granting_heaps(lefts, wished, colour, [(low, high)] * ticks)


def oddness(heaps, lefts, low, high, ticks):
    """The pairs (spot, tick), ascending, of all odd heaps from low to high at ticks below ticks."""
    need_heaps(heaps, "heaps")
    need_lefts(lefts)
    _need_field(low, high, ticks)
    need_one_colour(heaps)
    found = []
    for tick, row in enumerate(odd_heaps(heaps, lefts, ticks)):
        found.extend([(spot, tick) for spot, _ in row if low <= spot <= high])
    return tuple(sorted(found))


def need_wish(lefts, wish, colour, low, high, ticks):
    """Raise what is told of lefts, a wish, and where and when it is told."""
    need_lefts(lefts)
    if not _are_unlike_pairs(wish):
        raise BadNumber("wish")
    need_integer(colour, "colour", 0, 1)
    _need_field(low, high, ticks)
    for spot, tick in wish:
        if not is_within(spot, low, high) or not is_within(tick, 0, ticks - 1):
            raise Misfit("wish")
    if any([(spot + tick) % 2 != colour for spot, tick in wish]):
        raise Misfit("colour")


def granting_heaps(lefts, wished, colour, windows):
    """Heaps, ascending, that make just what is wished odd, tick by tick from low to high.

    The keys of wished are pairs (spot, tick); windows has a pair (low, high) for each tick.
    """
    start = {}
    chips = {}
    hands = {spot: True for spot in lefts}
    for tick, (low, high) in enumerate(windows):
        for spot in range(low + (low + tick + colour) % 2, high + 1, 2):
            odd = chips.get(spot, 0) % 2 == 1
            if odd != ((spot, tick) in wished):
                # Of 2 ** tick chips there half goes either way at each tick ahead of this
                # one: so nothing that is granted yet is changed.
                start[spot + tick] = start.get(spot + tick, 0) + (1 << tick)
                for right in range(tick + 1):
                    at = spot + 2 * right
                    chips[at] = chips.get(at, 0) + comb(tick, right)
        chips = {spot: many for spot, many in sent_on(sorted(chips.items()), hands)}
    return tuple([(spot, start[spot]) for spot in sorted(start)])


def _need_field(low, high, ticks):
    need_integer(low, "low", -FARTHEST_LOW, FARTHEST_LOW)
    need_integer(high, "high", low, low + MOST_WIDE)
    need_integer(ticks, "ticks", 0, MOST_TICKS)


def _are_unlike_pairs(value):
    if not isinstance(value, (list, tuple)) or not all([are_integers(pair, 2) for pair in value]):
        return False
    return len({(one, other) for one, other in value}) == len(value)
