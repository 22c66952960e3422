"""Whether a Bound is right."""

from nodice.checks import is_integer
from nodice.worths import Bound, told_bound


def shows_bound(board, home, value):
    """Whether a value is the Bound of a home."""
    told = told_bound(board, home)
    if not isinstance(value, Bound) or value.__class__.__name__ != "Bound":
        return False
    return _is_just(value.parts, told.parts)


def _is_just(value, wanted):
    # True and 1.0 are equal to 1, but no integers: so the kinds are asked, too.
    if not isinstance(wanted, tuple):
        return is_integer(value) and value == wanted
    if not isinstance(value, tuple) or len(value) != len(wanted):
        return False
    return all([_is_just(part, other) for part, other in zip(value, wanted)])
