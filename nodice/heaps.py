"""Starts: heaps of chips on spots of one colour, and spots whose hands show to the left."""

from nodice.checks import are_integers, is_within
from nodice.errors import BadHeaps, BadNumber, Misfit, TooMany

FARTHEST = 1000000
MOST_HEAPS = 60
MOST_CHIPS = 10 ** 60
MOST_LEFTS = 400


def colour_of(heaps):
    """0 if the spots are even, 1 if they are odd, None without heaps."""
    need_heaps(heaps, "heaps")
    need_one_colour(heaps)
    if not heaps:
        return None
    return heaps[0][0] % 2


def chips_in(heaps):
    """How many chips there are in all."""
    need_heaps(heaps, "heaps")
    need_one_colour(heaps)
    return sum([many for _, many in heaps])


def joined_heaps(one, other):
    """The heaps of both laid together, ascending."""
    need_heaps(one, "one")
    need_heaps(other, "other")
    both = [*one, *other]
    need_one_colour(both)
    chips = {}
    for spot, many in both:
        chips[spot] = chips.get(spot, 0) + many
    if len(chips) > MOST_HEAPS:
        raise TooMany("heaps", MOST_HEAPS)
    if any([chips[spot] > MOST_CHIPS for spot in chips]):
        raise TooMany("chips", MOST_CHIPS)
    return tuple([(spot, chips[spot]) for spot in sorted(chips)])


def are_heaps(value):
    """Whether a value is a list of heaps; their colours are not asked."""
    if not isinstance(value, (list, tuple)) or len(value) > MOST_HEAPS:
        return False
    if not all([_is_heap(pair) for pair in value]):
        return False
    return len({spot for spot, _ in value}) == len(value)


def are_lefts(value):
    """Whether a value is a list of unlike spots whose hands show to the left."""
    if not isinstance(value, (list, tuple)) or len(value) > MOST_LEFTS:
        return False
    if not all([is_within(spot, -FARTHEST, FARTHEST) for spot in value]):
        return False
    return len(set(value)) == len(value)


def need_heaps(value, part):
    """Raise BadHeaps(part) for what is no list of heaps; their colours are not asked."""
    if not are_heaps(value):
        raise BadHeaps(part)


def need_one_colour(heaps):
    """Raise Misfit unless the spots of heaps are all even or all odd."""
    if len({spot % 2 for spot, _ in heaps}) > 1:
        raise Misfit("colour")


def need_lefts(value):
    """Raise BadNumber for what is no list of unlike spots whose hands show to the left."""
    if not are_lefts(value):
        raise BadNumber("lefts")


def _is_heap(pair):
    if not are_integers(pair, 2):
        return False
    return is_within(pair[0], -FARTHEST, FARTHEST) and is_within(pair[1], 1, MOST_CHIPS)
