"""What is an integer, a fraction, a list of integers."""

from math import gcd

from nodice.errors import BadNumber


def is_integer(value):
    """Whether a value is an integer; True and False are none."""
    return isinstance(value, int) and not isinstance(value, bool)


def is_within(value, least, most):
    """Whether a value is an integer from least to most; None stands for no bound."""
    if not is_integer(value):
        return False
    if least is not None and value < least:
        return False
    return most is None or value <= most


def are_integers(value, many):
    """Whether a value is a list or tuple of so many integers."""
    if not isinstance(value, (list, tuple)) or len(value) != many:
        return False
    return all([is_integer(item) for item in value])


def is_fraction(value):
    """Whether a value is a pair (up, down) without a common divisor but 1, down above 0."""
    if not are_integers(value, 2):
        return False
    up, down = value
    return down > 0 and gcd(up, down) == 1


def need_integer(value, part, least, most):
    """Raise BadNumber(part) for what is no integer from least to most."""
    if not is_within(value, least, most):
        raise BadNumber(part)
