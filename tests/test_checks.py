"""Integers, bounds, fractions, lists of integers."""

from nodice.checks import are_integers, is_fraction, is_integer, is_within
from tests.support import NO_FRACTIONS, NO_INTEGERS, NO_LISTS, Case


class Integers(Case):
    def test_integers(self):
        for value in (0, 1, -1, 10 ** 200, -(10 ** 5000)):
            self.assertIs(is_integer(value), True)
        self.assertIs(is_integer(value=3), True)

    def test_no_integers(self):
        for value in NO_INTEGERS + NO_LISTS:
            if value.__class__ is not int:
                self.assertIs(is_integer(value), False, value)

    def test_within(self):
        for value, least, most, wanted in (
            (3, 3, 3, True), (2, 3, 3, False), (4, 3, 3, False), (3, None, 3, True),
            (4, None, 3, False), (-(10 ** 99), None, 3, True), (3, 3, None, True),
            (2, 3, None, False), (10 ** 99, 3, None, True), (5, None, None, True),
            (0, 0, 0, True), (0, 0, None, True), (0, None, 0, True), (1, None, 0, False),
            (-1, 0, None, False), (5, 7, 2, False),
        ):
            self.assertIs(is_within(value, least, most), wanted, (value, least, most))
        self.assertIs(is_within(value=1, least=0, most=2), True)

    def test_within_of_other_kinds(self):
        for value in NO_INTEGERS:
            self.assertIs(is_within(value, None, None), False)
            self.assertIs(is_within(value, -5, 5), False)


class Lists(Case):
    def test_lists_of_integers(self):
        for value, many, wanted in (
            ([], 0, True), ((), 0, True), ([1], 1, True), ((1, -2), 2, True), ([10 ** 99, 0, 5], 3, True),
            ([1], 0, False), ([1], 2, False), ((), 1, False), ([1, 2], 3, False),
        ):
            self.assertIs(are_integers(value, many), wanted, (value, many))
        self.assertIs(are_integers(value=[1], many=1), True)

    def test_with_what_is_no_integer(self):
        for value in NO_INTEGERS:
            self.assertIs(are_integers([value], 1), False)
            self.assertIs(are_integers((1, value), 2), False)
            self.assertIs(are_integers((value, 1), 2), False)

    def test_no_lists(self):
        for value in NO_LISTS:
            for many in (0, 1, 2):
                self.assertIs(are_integers(value, many), False)
        self.assertIs(are_integers({1: 2, 3: 4}, 2), False)
        self.assertIs(are_integers({1, 2}, 2), False)


class Fractions(Case):
    def test_fractions(self):
        for value in ((0, 1), (1, 1), (-1, 1), (-3, 2), (7, 12), (10 ** 60, 10 ** 60 + 1), (-5, 10 ** 60 + 1)):
            self.assertIs(is_fraction(value), True, value)
            self.assertIs(is_fraction(list(value)), True, value)

    def test_no_fractions(self):
        for value in NO_FRACTIONS + NO_INTEGERS + NO_LISTS:
            self.assertIs(is_fraction(value), False, value)
        self.assertIs(is_fraction(value=(-6, 9)), False)
        self.assertIs(is_fraction((0, 10 ** 60)), False)
        self.assertIs(is_fraction((0, -1)), False)
