"""Chance's shares and means."""

import random
import time
from fractions import Fraction

from nodice.errors import BadHeaps, BadNumber, Misfit
from nodice.means import mean_at, means, share_of
from tests.support import NO_INTEGERS, Case, counted_share, pair, split_means
from tests.test_heaps import FAR, GREAT, MIXED, NO_HEAPS
from tests.test_lines import some_start


class Shares(Case):
    def test_against_rows(self):
        for ticks in range(10):
            for far in range(-ticks - 3, ticks + 4):
                self.same(share_of(far, ticks), pair(counted_share(far, ticks)))

    def test_edges(self):
        self.same(share_of(0, 0), (1, 1))
        self.same(share_of(1, 0), (0, 1))
        self.same(share_of(-1, 0), (0, 1))
        for far in (400, -400):
            self.same(share_of(far, 400), (1, 2 ** 400))
            self.same(share_of(far, 399), (0, 1))
            self.same(share_of(far, 0), (0, 1))
        self.same(share_of(far=398, ticks=400), pair(Fraction(400, 2 ** 400)))
        self.same(share_of(399, 400), (0, 1))

    def test_all_shares_are_one(self):
        for ticks in (1, 60, 399, 400):
            self.assertEqual(sum(Fraction(*share_of(far, ticks)) for far in range(-400, 401)), 1)

    def test_wrong_values(self):
        for value in [*NO_INTEGERS, -401, 401, 10 ** 9]:
            self.wrong(BadNumber("far"), share_of, value, 5)
            self.wrong(BadNumber("far"), share_of, value, None)
        for value in [*NO_INTEGERS, -1, 401, 10 ** 9]:
            self.wrong(BadNumber("ticks"), share_of, 5, value)

    def test_short_time(self):
        begin = time.perf_counter()
        for far in range(-400, 401):
            share_of(far, 400)
        self.assertLess(time.perf_counter() - begin, 10)


class Means(Case):
    def test_against_halves(self):
        maker = random.Random(7)
        for _ in range(40):
            heaps, _ = some_start(maker, 6, 10 ** maker.randrange(1, 60))
            for ticks in (0, 1, 2, 3, 9, 20):
                wanted = split_means(heaps, ticks)
                found = means(heaps, ticks)
                self.same(found, tuple((spot, pair(wanted[spot])) for spot in sorted(wanted)))
                for spot in range(-30, 31):
                    self.same(mean_at(heaps, spot, ticks), pair(wanted.get(spot, 0)))

    def test_any_order_and_kind(self):
        for heaps in ([(0, 3), (2, 1)], ([2, 1], (0, 3)), [[2, 1], [0, 3]]):
            self.same(mean_at(heaps, 1, 1), (2, 1))
            self.same(mean_at(heaps=heaps, spot=1, ticks=1), (2, 1))
            self.same(means(heaps=heaps, ticks=1), ((-1, (3, 2)), (1, (2, 1)), (3, (1, 2))))

    def test_edges(self):
        self.same(mean_at([], 0, 200), (0, 1))
        self.same(means((), 200), ())
        self.same(means([(5, 7)], 0), ((5, (7, 1)),))
        self.same(mean_at([(5, 7)], 5, 0), (7, 1))
        self.same(mean_at([(0, GREAT)], 200, 200), pair(Fraction(GREAT, 2 ** 200)))
        self.same(mean_at([(0, GREAT)], 199, 200), (0, 1))
        self.same(mean_at([(0, GREAT)], 202, 200), (0, 1))
        self.same(mean_at([(0, GREAT)], 10 ** 80, 200), (0, 1))
        self.same(mean_at([(FAR, 4)], FAR + 1, 1), (2, 1))

    def test_wrong_values(self):
        for value in NO_HEAPS:
            self.wrong(BadHeaps("heaps"), mean_at, value, 0, 0)
            self.wrong(BadHeaps("heaps"), mean_at, value, None, None)
            self.wrong(BadHeaps("heaps"), means, value, None)
        for value in NO_INTEGERS:
            self.wrong(BadNumber("spot"), mean_at, [(0, 1)], value, 0)
            self.wrong(BadNumber("spot"), mean_at, MIXED[0], value, None)
        for value in [*NO_INTEGERS, -1, 201]:
            self.wrong(BadNumber("ticks"), mean_at, [(0, 1)], 0, value)
            self.wrong(BadNumber("ticks"), mean_at, MIXED[0], 0, value)
            self.wrong(BadNumber("ticks"), means, [(0, 1)], value)
            self.wrong(BadNumber("ticks"), means, MIXED[0], value)
        for heaps in MIXED:
            self.wrong(Misfit("colour"), mean_at, heaps, 0, 0)
            self.wrong(Misfit("colour"), means, heaps, 0)

    def test_short_time(self):
        begin = time.perf_counter()
        heaps = [(1000 * spot, GREAT - spot) for spot in range(60)]
        found = means(heaps, 200)
        self.assertEqual(len(found), 60 * 201)
        self.assertEqual(sum(Fraction(*mean) for _, mean in found), sum(many for _, many in heaps))
        for spot, mean in found[:500]:
            self.same(mean_at(heaps, spot, 200), mean)
        self.assertLess(time.perf_counter() - begin, 20)
