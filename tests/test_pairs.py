"""Reckoning with fractions."""

from fractions import Fraction

from nodice.errors import BadNumber
from nodice.pairs import added, below, halved, less, multiplied, reduced
from tests.support import NO_FRACTIONS, NO_INTEGERS, Case, pair

GREAT = 10 ** 60
NUMBERS = [
    Fraction(0), Fraction(1), Fraction(-1), Fraction(1, 2), Fraction(-1, 2), Fraction(2, 3),
    Fraction(-7, 4), Fraction(5, 6), Fraction(GREAT), Fraction(1, GREAT), Fraction(-GREAT, GREAT - 1),
    Fraction(GREAT - 1, GREAT), Fraction(12, 35),
]
TWOS = {"added": added, "less": less, "multiplied": multiplied, "below": below}


class Pairs(Case):
    def test_reduced(self):
        for up in (*range(-12, 13), GREAT, -GREAT * 6):
            for down in (*range(-12, 13), GREAT, -GREAT * 4):
                if down != 0:
                    self.same(reduced(up, down), pair(Fraction(up, down)))
        self.same(reduced(up=4, down=-6), (-2, 3))

    def test_reduced_of_wrong_values(self):
        self.wrong(BadNumber("down"), reduced, 1, 0)
        for value in NO_INTEGERS:
            self.wrong(BadNumber("up"), reduced, value, 1)
            self.wrong(BadNumber("down"), reduced, 1, value)
            self.wrong(BadNumber("up"), reduced, value, 0)
            self.wrong(BadNumber("up"), reduced, value, value)

    def test_against_numbers(self):
        for one in NUMBERS:
            for other in NUMBERS:
                for left, right in ((pair(one), pair(other)), (list(pair(one)), list(pair(other)))):
                    self.same(added(left, right), pair(one + other))
                    self.same(less(left, right), pair(one - other))
                    self.same(multiplied(left, right), pair(one * other))
                    self.assertIs(below(left, right), one < other)

    def test_by_name(self):
        for call in TWOS.values():
            self.assertEqual(call(one=(1, 2), other=(1, 3)), call((1, 2), [1, 3]))

    def test_wrong_values(self):
        for call in TWOS.values():
            for value in NO_FRACTIONS + NO_INTEGERS:
                self.wrong(BadNumber("one"), call, value, (1, 2))
                self.wrong(BadNumber("other"), call, (1, 2), value)
                self.wrong(BadNumber("one"), call, value, value)

    def test_what_was_passed_stays(self):
        one, other = [1, 2], [3, 4]
        for call in TWOS.values():
            call(one, other)
        self.assertEqual((one, other), ([1, 2], [3, 4]))

    def test_halved(self):
        for up in (*range(-40, 41), GREAT, -GREAT):
            for times in range(8):
                self.same(halved(up, times), pair(Fraction(up, 2 ** times)))
