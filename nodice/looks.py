"""Looks: any heaps at any ticks, weighed and added."""

from nodice.checks import are_integers, is_within, need_integer
from nodice.errors import BadLook, BadNumber, BadText, Misfit, TooMany
from nodice.texts import items_of, need_word, number_at

FARTHEST = 1000000
FARTHEST_WINDOW = 999900
LAST_TICK = 60
MOST_ROWS = 40
MOST_WEIGHT = 1000000


class Look:
    """Rows (spot, tick, weight) of one colour."""

    def __init__(self, rows):
        if not _are_rows(rows):
            raise BadLook("rows")
        if len({(spot + tick) % 2 for spot, tick, _ in rows}) > 1:
            raise Misfit("colour")
        ordered = sorted([(tick, spot, weight) for spot, tick, weight in rows])
        self.rows = tuple([(spot, tick, weight) for tick, spot, weight in ordered])
        self.last = ordered[-1][0]
        self.colour = (ordered[0][0] + ordered[0][1]) % 2

    def __eq__(self, other):
        return isinstance(other, Look) and self.rows == other.rows

    def __str__(self):
        return " / ".join([f"{spot} {tick} {weight}" for spot, tick, weight in self.rows])

    @staticmethod
    def read(text):
        """The Look whose text this is."""
        items = items_of(text)
        rows = [_row_from(items, 0, [])]
        while 4 * len(rows) - 1 < len(items):
            at = 4 * len(rows) - 1
            need_word(items, at, "/")
            if len(rows) == MOST_ROWS:
                raise BadText(0, at)
            rows.append(_row_from(items, at + 1, rows))
        return Look(rows)


def window(first, many, tick):
    """The Look at so many spots from the first one on, each two farther right, at a tick."""
    need_integer(first, "first", -FARTHEST_WINDOW, FARTHEST_WINDOW)
    need_integer(many, "many", 1, MOST_ROWS)
    need_integer(tick, "tick", 0, LAST_TICK)
    return Look([(first + 2 * index, tick, 1) for index in range(many)])


def visits(spot, tick):
    """The Look at a spot at the tick, and at each second one ahead of it."""
    need_integer(spot, "spot", -FARTHEST, FARTHEST)
    need_integer(tick, "tick", 0, LAST_TICK)
    return Look([(spot, earlier, 1) for earlier in range(tick % 2, tick + 1, 2)])


def joined_looks(one, other):
    """The rows of both, weights of the same spot and tick added."""
    need_look(one, "one")
    need_look(other, "other")
    if one.colour != other.colour:
        raise Misfit("colour")
    weights = {}
    for spot, tick, weight in one.rows + other.rows:
        weights[spot, tick] = weights.get((spot, tick), 0) + weight
    rows = [(spot, tick, weight) for (spot, tick), weight in weights.items() if weight != 0]
    if not rows:
        raise Misfit("rows")
    if len(rows) > MOST_ROWS:
        raise TooMany("rows", MOST_ROWS)
    return _weighed(rows)


def scaled_look(look, by):
    """The Look with all weights times an integer other than 0."""
    need_look(look, "look")
    need_integer(by, "by", -MOST_WEIGHT, MOST_WEIGHT)
    if by == 0:
        raise BadNumber("by")
    return _weighed([(spot, tick, weight * by) for spot, tick, weight in look.rows])


def moved_look(look, spots, ticks):
    """The Look with all rows so many spots farther right and so many ticks later."""
    need_look(look, "look")
    need_integer(spots, "spots", None, None)
    need_integer(ticks, "ticks", None, None)
    rows = [(spot + spots, tick + ticks, weight) for spot, tick, weight in look.rows]
    if not all([is_within(row[0], -FARTHEST, FARTHEST) for row in rows]):
        raise Misfit("spots")
    if not all([is_within(row[1], 0, LAST_TICK) for row in rows]):
        raise Misfit("ticks")
    return Look(rows)


def need_look(value, part):
    """Raise BadLook(part) for what is no Look."""
    if not isinstance(value, Look):
        raise BadLook(part)


def _weighed(rows):
    if not all([is_within(row[2], -MOST_WEIGHT, MOST_WEIGHT) for row in rows]):
        raise TooMany("weight", MOST_WEIGHT)
    return Look(rows)


def _are_rows(value):
    if not isinstance(value, (list, tuple)) or not 1 <= len(value) <= MOST_ROWS:
        return False
    if not all([_is_row(row) for row in value]):
        return False
    return len({(spot, tick) for spot, tick, _ in value}) == len(value)


def _is_row(row):
    if not are_integers(row, 3):
        return False
    spot, tick, weight = row
    if not is_within(spot, -FARTHEST, FARTHEST) or not is_within(tick, 0, LAST_TICK):
        return False
    return weight != 0 and is_within(weight, -MOST_WEIGHT, MOST_WEIGHT)


def _row_from(items, at, ahead):
    # Each item is tested as it is come to: an earlier fault is told ahead of a later one.
    spot = number_at(items, at, -FARTHEST, FARTHEST)
    tick = number_at(items, at + 1, 0, LAST_TICK)
    if ahead and not _can_follow(ahead[-1], spot, tick):
        raise BadText(0, at + 1)
    weight = number_at(items, at + 2, -MOST_WEIGHT, MOST_WEIGHT)
    if weight == 0:
        raise BadText(0, at + 2)
    return (spot, tick, weight)


def _can_follow(row, spot, tick):
    if (tick, spot) <= (row[1], row[0]):
        return False
    return (spot + tick - row[0] - row[1]) % 2 == 0
