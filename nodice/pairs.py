"""Fractions as pairs (up, down)."""

from math import gcd, lcm

from nodice.checks import is_fraction, need_integer
from nodice.errors import BadNumber


def reduced(up, down):
    """The fraction of two integers, down other than 0."""
    need_integer(up, "up", None, None)
    need_integer(down, "down", None, None)
    if down == 0:
        raise BadNumber("down")
    common = gcd(up, down)
    if down < 0:
        common = -common
    return (up // common, down // common)


def halved(up, times):
    """The fraction of up and 2 ** times."""
    if up == 0:
        return (0, 1)
    # Only 2 can divide both, so the lowest bit of up tells as much as a slow gcd would.
    common = min(times, (up & -up).bit_length() - 1)
    return (up >> common, 1 << (times - common))


def added(one, other):
    """The sum of two fractions."""
    _need_two(one, other)
    return reduced(one[0] * other[1] + other[0] * one[1], one[1] * other[1])


def less(one, other):
    """One fraction less the other."""
    _need_two(one, other)
    return reduced(one[0] * other[1] - other[0] * one[1], one[1] * other[1])


def multiplied(one, other):
    """The product of two fractions."""
    _need_two(one, other)
    return reduced(one[0] * other[0], one[1] * other[1])


def below(one, other):
    """Whether one fraction is less than the other."""
    _need_two(one, other)
    return one[0] * other[1] < other[0] * one[1]


def over_one_down(numbers):
    """Fractions as a list of integers, and the one integer by which all are to be divided."""
    common = 1
    for _, down in numbers:
        common = lcm(common, down)
    return [up * (common // down) for up, down in numbers], common


def _need_two(one, other):
    if not is_fraction(one):
        raise BadNumber("one")
    if not is_fraction(other):
        raise BadNumber("other")
