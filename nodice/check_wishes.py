"""Whether heaps grant a wish."""

from nodice.heaps import are_heaps
from nodice.wishes import need_wish, oddness


def shows_start(lefts, wish, colour, low, high, ticks, value):
    """Whether a value is heaps, on spots of this colour, that grant a wish."""
    need_wish(lefts, wish, colour, low, high, ticks)
    if not are_heaps(value) or any([spot % 2 != colour for spot, _ in value]):
        return False
    wished = sorted([(spot, tick) for spot, tick in wish])
    return oddness(value, lefts, low, high, ticks) == tuple(wished)
