"""What odd chips change."""

import random
import time
from fractions import Fraction

from nodice.changes import change, changes, touched
from nodice.errors import BadLook, BadNumber
from nodice.firsts import first_share
from nodice.looks import Look, joined_looks, scaled_look, visits, window
from nodice.means import share_of
from nodice.worths_of_looks import look_mean
from tests.support import NO_INTEGERS, Case, pair
from tests.test_looks import NO_LOOKS
from tests.test_worths_of_looks import some_look


def share(far, ticks):
    return Fraction(*share_of(far, ticks))


def told_change(look, y, t):
    """As [7] tells it."""
    total = Fraction(0)
    for x, s, w in look.rows:
        if s > t:
            left = s - t - 1
            total += w * (share(x - (y + 1), left) - share(x - (y - 1), left)) / 2
    return total


class Changes(Case):
    def test_against_shares(self):
        maker = random.Random(15)
        looks = [some_look(maker, maker.randrange(2), last) for last in (0, 1, 2, 5, 9) for _ in range(6)]
        still = Look([(-1, 3, 1), (1, 5, 4)])
        # From 0 one row changes just what the other one turns over.
        cancelled = Look([(1, 1, 1), (2, 2, -2)])
        self.same(touched(cancelled), (1, 2, 3, 4))
        for look in [*looks, still, cancelled, visits(3, 12), window(-9, 8, 10)]:
            found = []
            for spot in range(-30, 31):
                told = [told_change(look, spot, tick) for tick in range(15)]
                for tick, wanted in enumerate(told):
                    self.same(change(look, spot, tick), pair(wanted))
                rows = tuple((tick, pair(wanted)) for tick, wanted in enumerate(told) if wanted != 0)
                self.same(changes(look, spot), rows)
                if rows:
                    found.append(spot)
            self.same(touched(look), tuple(found))

    def test_by_first_shares(self):
        for far in range(1, 12):
            for ticks in range(1, 61):
                one = window(far, 1, ticks)
                wanted = Fraction(*first_share(far, ticks))
                self.same(change(one, 0, 0), pair(wanted))
                self.same(change(one, 2 * far, 0), pair(-wanted))
                self.same(change(one, far, 0), (0, 1))

    def test_half_of_the_difference_of_means(self):
        maker = random.Random(16)
        for _ in range(20):
            look = some_look(maker, 1, 9)
            later = Look([(s, t + 1, w) for s, t, w in look.rows])
            for spot in range(-8, 9, 2):
                right, left = look_mean(look, [(spot + 1, 1)]), look_mean(look, [(spot - 1, 1)])
                self.same(change(later, spot, 0), pair((Fraction(*right) - Fraction(*left)) / 2))

    def test_nothing(self):
        look = Look([(0, 2, 1), (2, 2, -1), (1, 5, 3)])
        for spot in range(-8, 9):
            for tick in range(5, 61):
                self.same(change(look, spot, tick), (0, 1))
            for tick in range(5):
                if (spot + tick) % 2 != look.colour:
                    self.same(change(look, spot, tick), (0, 1))
        self.same(changes(look, 10 ** 80), ())
        self.same(change(look, -(10 ** 80), 0), (0, 1))
        self.same(touched(Look([(0, 0, 5), (2, 0, 1)])), ())
        self.same(changes(Look([(0, 0, 5)]), 1), ())
        self.same(change(Look([(0, 0, 5)]), 1, 0), (0, 1))
        self.same(change(Look([(0, 0, 5)]), 1, 60), (0, 1))

    def test_they_are_added(self):
        one, other = Look([(0, 4, 3), (2, 2, -1)]), Look([(0, 4, -2), (1, 5, 9)])
        both, turned = joined_looks(one, other), scaled_look(one, -3)
        for spot in range(-8, 9):
            for tick in range(6):
                told = [Fraction(*change(look, spot, tick)) for look in (one, other, both, turned)]
                self.assertEqual(told[0] + told[1], told[2])
                self.assertEqual(told[0] * -3, told[3])

    def test_far_out(self):
        look = Look([(1000000, 60, -1000000)])
        self.assertEqual(len(touched(look)), 120)
        self.same(change(look=look, spot=1000060, tick=0), pair(Fraction(1000000, 2 ** 60)))
        self.same(changes(look=look, spot=1000060), ((0, pair(Fraction(1000000, 2 ** 60))),))
        self.same(touched(look=look)[0], 999940)

    def test_wrong_values(self):
        look = window(0, 1, 2)
        for value in NO_LOOKS:
            self.wrong(BadLook("look"), change, value, None, None)
            self.wrong(BadLook("look"), changes, value, None)
            self.wrong(BadLook("look"), touched, value)
        for value in NO_INTEGERS:
            self.wrong(BadNumber("spot"), change, look, value, 0)
            self.wrong(BadNumber("spot"), change, look, value, None)
            self.wrong(BadNumber("spot"), changes, look, value)
        for value in [*NO_INTEGERS, -1, 61]:
            self.wrong(BadNumber("tick"), change, look, 0, value)
        self.same(change(look, 0, 60), (0, 1))

    def test_short_time(self):
        begin = time.perf_counter()
        look = Look([(200 * k, 60, 1000000 - k) for k in range(40)])
        spots = touched(look)
        self.assertEqual(len(spots), 40 * 120)
        for spot in spots[:200]:
            self.assertNotEqual(changes(look, spot), ())
        self.assertLess(time.perf_counter() - begin, 20)
