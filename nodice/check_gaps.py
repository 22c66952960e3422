"""Whether a Gap is right."""

from nodice.checks import are_integers, is_fraction
from nodice.told_gaps import Gap, told_gap


def shows_gap(look, heaps, lefts, value):
    """Whether a value is what told_gap tells of a look and a start."""
    told = told_gap(look, heaps, lefts)
    if not isinstance(value, Gap) or value.__class__.__name__ != "Gap":
        return False
    # True and 1.0 are equal to 1, but no integers: so the kinds are asked, too.
    if not is_fraction(value.gap) or not isinstance(value.chips, tuple):
        return False
    if not all([are_integers(chip, 3) for chip in value.chips]):
        return False
    return value.gap == told.gap and value.chips == told.chips
