"""Even rows."""

import random
import time
from itertools import permutations, product

from nodice.dealt import dealt, is_even
from nodice.errors import BadNumber, TooMany
from tests.support import NO_INTEGERS, NO_LISTS, Case, changed, plain

NO_WEIGHTS = [
    *NO_LISTS, [], (), [0], [-1], [61], [1, 0], [1, 61], [0] * 60, [1] * 61, [[1]], {1: 1}, [10 ** 70], [60] * 61,
    *[[value] for value in NO_INTEGERS], *[[2, value] for value in NO_INTEGERS],
]


def parted(whole, many):
    """All rows of so many weights that are so many together."""
    if many == 1:
        yield [whole]
        return
    for first in range(1, whole - many + 2):
        for rest in parted(whole - first, many - 1):
            yield [first, *rest]


def is_even_by_counting(weights, row):
    whole = sum(weights)
    if len(row) != whole or not set(row) <= set(range(len(weights))):
        return False
    for length in range(whole + 1):
        for index, weight in enumerate(weights):
            if not -whole < row[:length].count(index) * whole - length * weight < whole:
                return False
    return all(row.count(index) == weight for index, weight in enumerate(weights))


def some_weights(maker, most=60):
    many = maker.randrange(1, most + 1)
    weights = [1] * many
    for _ in range(maker.randrange(most - many + 1)):
        weights[maker.randrange(many)] += 1
    return weights


class Dealt(Case):
    def test_all_small_weights(self):
        for whole in range(1, 9):
            for many in range(1, whole + 1):
                for weights in parted(whole, many):
                    row = dealt(weights)
                    self.assertTrue(row.__class__ is tuple and all(index.__class__ is int for index in row))
                    self.assertTrue(is_even_by_counting(weights, row), (weights, row))
                    self.assertIs(is_even(weights, row), True)
                    self.same(dealt(tuple(weights)), row)

    def test_drawn_weights(self):
        maker = random.Random(191)
        for most in (10, 30, 60, 60):
            for _ in range(60):
                weights = some_weights(maker, most)
                row = dealt(weights=weights)
                self.assertTrue(is_even_by_counting(weights, row), (weights, row))
                self.assertIs(is_even(weights=tuple(weights), row=list(row)), True)

    def test_edges(self):
        self.same(dealt([1]), (0,))
        self.same(dealt([60]), (0,) * 60)
        self.assertEqual(sorted(dealt([1] * 60)), list(range(60)))
        self.assertEqual(dealt([59, 1]).count(1), 1)
        for weights in ([30, 30], [1, 59], [20, 20, 20], [1] * 59 + [1], [58, 1, 1], [31, 29], [7, 11, 13, 29]):
            self.assertTrue(is_even_by_counting(weights, dealt(weights)))

    def test_wrong_weights(self):
        for value in NO_WEIGHTS:
            self.wrong(BadNumber("weights"), dealt, value)
            self.wrong(BadNumber("weights"), is_even, value, (0,))
            self.wrong(BadNumber("weights"), is_even, value, None)
        for value in ([30, 31], [1, 60], (60, 1), [2] * 31, [60] * 60, [1] * 59 + [2]):
            self.wrong(TooMany("row", 60), dealt, value)
            self.wrong(TooMany("row", 60), is_even, value, None)

    def test_short_time(self):
        begin = time.perf_counter()
        for weights in ([1] * 60, [60], [2] * 30, [20, 20, 20], [1] * 30 + [30]):
            for _ in range(60):
                self.assertIs(is_even(weights, dealt(weights)), True)
        self.assertLess(time.perf_counter() - begin, 20)


class IsEven(Case):
    def test_all_rows_of_small_weights(self):
        for whole in range(1, 7):
            for many in range(1, min(whole, 4) + 1):
                for weights in parted(whole, many):
                    for row in product(range(many), repeat=whole):
                        self.assertIs(is_even(weights, row), is_even_by_counting(weights, row), (weights, row))

    def test_orders_of_a_row(self):
        for weights in ([2, 2, 3], [1, 2, 4], [4, 3], [1, 1, 5], [1, 1, 1, 4]):
            found = set()
            for row in permutations([index for index, weight in enumerate(weights) for _ in range(weight)]):
                if row not in found:
                    found.add(row)
                    self.assertIs(is_even(weights, row), is_even_by_counting(weights, row))

    def test_two_entries_exchanged(self):
        maker = random.Random(192)
        unlike = []
        for _ in range(60):
            weights = some_weights(maker)
            row = list(dealt(weights))
            one, other = maker.randrange(len(row)), maker.randrange(len(row))
            row[one], row[other] = row[other], row[one]
            unlike.append(is_even_by_counting(weights, row))
            self.assertIs(is_even(weights, row), unlike[-1])
        self.assertEqual(set(unlike), {True, False})

    def test_other_rows(self):
        for weights in ([2, 2], [1, 1, 2], [3], [1], [5, 7]):
            row = dealt(weights)
            for other in changed(row):
                right = isinstance(other, (list, tuple)) and all(index.__class__ is int for index in other)
                wanted = right and is_even_by_counting(weights, list(other))
                self.assertIs(is_even(weights, other), wanted, (weights, other))
            self.assertIs(is_even(weights, row + row), False)
            self.assertIs(is_even(weights, [row]), False)
            self.assertIs(is_even(weights, plain(row)), False)
        for row in ((False, True), [0.0, 1.0], (0, True), "01", {0: 0, 1: 1}, range(2), None, 0, (0, [1]), (0, 10 ** 70), (0, -1)):
            self.assertIs(is_even([1, 1], row), False)
