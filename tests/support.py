"""What several tests use: values of wrong kinds, and slow, plain ways to the same answers."""

import unittest
from fractions import Fraction
from itertools import combinations, product

from nodice.papers import Denial, Paper

NO_INTEGERS = [True, False, None, "", "1", b"1", 1.0, [], (), {}, [1], (1,), {1: 2}, [[1]]]
NO_LISTS = [True, False, None, 0, 5, 1.5, "", "ab", b"ab", {}, {0: 1}]
NO_FRACTIONS = [
    (2, 4), (0, 2), (1, 0), (0, 0), (1, -2), (-1, -2), (1, 2, 3), (1,), (), (True, 2), (1, True),
    (False, 1), (1, None), ("1", 2), "12", None, 1, {1: 2}, [[1, 2]], [2, 4], (10 ** 60, 10 ** 59),
]


class Case(unittest.TestCase):
    def wrong(self, wanted, call, *args, **more):
        """The call raises just this error, with just these fields."""
        with self.assertRaises(Exception) as caught:
            call(*args, **more)
        found = caught.exception
        told = (found.__class__, vars(found))
        self.assertEqual(told, (wanted.__class__, vars(wanted)), (args, more))
        for name, value in vars(wanted).items():
            self.assertIs(getattr(found, name).__class__, value.__class__)

    def same(self, found, wanted):
        """Equal, and of the same kind all the way in: a tuple is no list, 1 is not True."""
        self.assertEqual(repr(found), repr(wanted))


def played(heaps, lefts, ticks):
    """Chip by chip: the chips by spot, and the spots whose hands show to the left."""
    chips = {spot: many for spot, many in heaps}
    hands = {spot: -1 for spot in lefts}
    for _ in range(ticks):
        sent = {}
        for spot, many in chips.items():
            for _ in range(many):
                hand = hands.get(spot, 1)
                sent[spot + hand] = sent.get(spot + hand, 0) + 1
                hands[spot] = -hand
        chips = sent
    return chips, sorted(spot for spot in hands if hands[spot] < 0)


def counted_share(far, ticks):
    """Chance's share, by going along all rows of steps."""
    rows = list(product((-1, 1), repeat=ticks))
    return Fraction(sum(1 for row in rows if sum(row) == far), len(rows))


def counted_first(far, ticks):
    """Chance's first share, by going along all rows of steps."""
    rows = list(product((-1, 1), repeat=ticks))
    found = 0
    for row in rows:
        at, came = 0, []
        for number, step in enumerate(row, 1):
            at += step
            if at == far:
                came.append(number)
        if came and came[0] == ticks:
            found += 1
    return Fraction(found, len(rows))


def pair(number):
    number = Fraction(number)
    return (number.numerator, number.denominator)


def split_means(heaps, ticks):
    """Means by spot: each heap is parted in two halves at each tick."""
    chips = {spot: Fraction(many) for spot, many in heaps}
    for _ in range(ticks):
        sent = {}
        for spot, many in chips.items():
            for beside in (spot - 1, spot + 1):
                sent[beside] = sent.get(beside, 0) + many / 2
        chips = sent
    return chips


def variants(items, others):
    """The items with one exchanged, left out, put in, doubled; two exchanged; their beginnings."""
    for index in range(len(items) + 1):
        for item in others:
            yield items[:index] + [item] + items[index:]
            yield items[:index] + [item] + items[index + 1:]
        yield items[:index]
        yield items[:index] + items[index + 1:]
        yield items[:index + 1] + items[index:]
        for other in range(index + 1, len(items)):
            changed = list(items)
            changed[index], changed[other] = items[other], items[index]
            yield changed


def odd_table(heaps, lefts, ticks):
    """Chip by chip: for each tick below ticks the pairs (spot, way), ascending, of its odd heaps."""
    table = []
    for tick in range(ticks):
        chips, left = played(heaps, lefts, tick)
        table.append([(spot, -1 if spot in left else 1) for spot in sorted(chips) if chips[spot] % 2])
    return table


def sums_by_turns(numbers):
    """Triples (sum, picks, sign) of all choices of numbers, with either first sign."""
    for many in range(len(numbers) + 1):
        for picks in combinations(range(len(numbers)), many):
            total = sum(((-1) ** place * Fraction(*numbers[pick]) for place, pick in enumerate(picks)), Fraction(0))
            for sign in (1, -1):
                yield sign * total, picks, sign


def plain(value):
    """The value, written: tuples in the place of lists, and 1 unlike True and 1.0."""
    if isinstance(value, (list, tuple)):
        return "(" + "".join(plain(item) + "," for item in value) + ")"
    return repr(value)


ODD_PARTS = [None, True, False, 0, 1, -1, 2, 1.0, -0.0, "", "1", b"1", (), [], ((),), {}, (1,), [[1, 2]], (0, 1), (1, 2)]


def changed(value):
    """A value with its parts exchanged, left out, put in, doubled, turned over, of other kinds; lists for tuples."""
    yield from ODD_PARTS
    yield [value]
    yield (value, value)
    if isinstance(value, int):
        yield from (value + 1, value - 1, -value, 2 * value, str(value))
        if abs(value) < 2 ** 50:
            yield float(value)
    if isinstance(value, (list, tuple)):
        yield from changed_rows(list(value))


def changed_rows(items):
    yield from (list(items), tuple(items), items[::-1], items * 2, dict(enumerate(items)), str(items))
    for index in range(len(items) + 1):
        for other in [*ODD_PARTS, *items[:1], *items[-1:]]:
            yield items[:index] + [other] + items[index:]
    for index, item in enumerate(items):
        yield items[:index] + items[index + 1:]
        yield items[index + 1:] + items[:index]
        for other in changed(item):
            yield items[:index] + [other] + items[index + 1:]


def changed_parts(parts):
    """The parts of a paper with one of them changed, or two exchanged."""
    for index, part in enumerate(parts):
        for other in changed(part):
            yield [*parts[:index], other, *parts[index + 1:]]
        for at in range(index):
            rows = list(parts)
            rows[index], rows[at] = rows[at], rows[index]
            yield rows


def no_papers(made, parts):
    """Values with the parts of a right paper that are not made by calling its class, and others."""
    word = made.__name__.lower()
    below = type("Other", (made,), {})
    yield from (Paper(word, *parts), Denial(word, *parts), below(*parts), tuple(parts), list(parts), made, [made(*parts)])
    yield from (None, True, False, 0, 1, "", word, b"", {}, (), [], (word, *parts), object(), 1.5)
