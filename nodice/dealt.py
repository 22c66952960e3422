"""Even rows: none of their indexes is ever a whole entry ahead of its share, or behind."""

from nodice.checks import is_within
from nodice.errors import BadNumber, TooMany

MOST_ENTRIES = 60


def dealt(weights):
    """An even row for weights."""
    need_weights(weights)
    whole = sum(weights)
    often = [0] * len(weights)
    row = []
    for length in range(1, whole + 1):
        # Of all whose next entry is free here, one stands here whose next entry is due first.
        free = [
            (_due(many + 1, weight, whole), at)
            for at, (many, weight) in enumerate(zip(often, weights)) if many * whole < length * weight
        ]
        _, index = min(free)
        often[index] += 1
        row.append(index)
    return tuple(row)


def is_even(weights, row):
    """Whether a value is an even row for weights."""
    need_weights(weights)
    whole = sum(weights)
    if not isinstance(row, (list, tuple)) or len(row) != whole:
        return False
    if not all([is_within(index, 0, len(weights) - 1) for index in row]):
        return False
    often = [0] * len(weights)
    for length, index in enumerate(row, start=1):
        often[index] += 1
        for many, weight in zip(often, weights):
            if abs(many * whole - length * weight) >= whole:
                return False
    return True


def need_weights(weights):
    """Raise BadNumber for no list of weights, TooMany if they are too many together."""
    if not isinstance(weights, (list, tuple)) or not 1 <= len(weights) <= MOST_ENTRIES:
        raise BadNumber("weights")
    if not all([is_within(weight, 1, MOST_ENTRIES) for weight in weights]):
        raise BadNumber("weights")
    if sum(weights) > MOST_ENTRIES:
        raise TooMany("row", MOST_ENTRIES)


def _due(entry, weight, whole):
    # The first place at which place times weight is at least entry times whole.
    return -(-entry * whole // weight)
