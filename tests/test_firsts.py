"""First shares and reaches."""

import time
from fractions import Fraction

from nodice.errors import BadNumber
from nodice.firsts import best_ticks, first_share, reach, reach_rows
from nodice.means import share_of
from tests.support import NO_INTEGERS, Case, counted_first, pair


class FirstShares(Case):
    def test_against_rows(self):
        for ticks in range(11):
            for far in range(1, ticks + 3):
                self.same(first_share(far, ticks), pair(counted_first(far, ticks)))

    def test_by_shares(self):
        for far in (1, 2, 5, 39, 399, 400):
            for ticks in (1, 2, 5, 40, 399, 400):
                wanted = Fraction(far, ticks) * Fraction(*share_of(far, ticks)) if far <= ticks else 0
                self.same(first_share(far=far, ticks=ticks), pair(wanted))

    def test_half_the_difference(self):
        for far in (1, 2, 7, 20):
            for ticks in (1, 2, 7, 8, 33, 60):
                near, off = share_of(far - 1, ticks - 1), share_of(far + 1, ticks - 1)
                self.same(first_share(far, ticks), pair((Fraction(*near) - Fraction(*off)) / 2))

    def test_edges(self):
        self.same(first_share(1, 0), (0, 1))
        self.same(first_share(400, 400), (1, 2 ** 400))
        self.same(first_share(400, 399), (0, 1))
        self.same(first_share(1, 400), (0, 1))

    def test_wrong_values(self):
        for value in [*NO_INTEGERS, 0, -1, 401]:
            self.wrong(BadNumber("far"), first_share, value, 1)
            self.wrong(BadNumber("far"), first_share, value, None)
        for value in [*NO_INTEGERS, -1, 401]:
            self.wrong(BadNumber("ticks"), first_share, 1, value)


class BestTicks(Case):
    def test_against_all(self):
        for far in (*range(1, 22), 33, 34):
            shares = [Fraction(*first_share(far, ticks)) for ticks in range(401)]
            for most in range(0, 401, 1 if far < 12 else 7):
                greatest = max(shares[:most + 1])
                wanted = [ticks for ticks in range(most + 1) if shares[ticks] == greatest]
                self.same(best_ticks(far, most), tuple(wanted) if far <= most else ())

    def test_two_alike(self):
        self.same(best_ticks(4, 400), (4, 6))
        self.same(best_ticks(5, 400), (7, 9))
        self.same(best_ticks(7, 400), (15, 17))
        self.same(best_ticks(7, 17), (15, 17))
        self.same(best_ticks(7, 16), (15,))
        self.same(best_ticks(6, 400), (12,))
        self.same(best_ticks(7, 14), (13,))

    def test_edges(self):
        self.same(best_ticks(1, 0), ())
        self.same(best_ticks(400, 400), (400,))
        self.same(best_ticks(400, 399), ())
        self.same(best_ticks(far=1, most=1), (1,))
        self.same(best_ticks(399, 400), (399,))

    def test_wrong_values(self):
        for value in [*NO_INTEGERS, 0, -1, 401]:
            self.wrong(BadNumber("far"), best_ticks, value, 1)
            self.wrong(BadNumber("far"), best_ticks, value, None)
        for value in [*NO_INTEGERS, -1, 401]:
            self.wrong(BadNumber("most"), best_ticks, 1, value)

    def test_short_time(self):
        begin = time.perf_counter()
        for far in range(1, 401):
            best_ticks(far, 400)
        self.assertLess(time.perf_counter() - begin, 10)


class Reaches(Case):
    def test_rows(self):
        for ticks in range(25):
            wanted = [
                max(Fraction(*first_share(far, earlier)) for earlier in range(ticks + 1))
                for far in range(1, ticks + 1)
            ]
            self.same(reach_rows(ticks), tuple(pair(share) for share in wanted))
            self.same(reach(ticks), pair(2 * sum(wanted)))

    def test_edges(self):
        self.same(reach(0), (0, 1))
        self.same(reach_rows(0), ())
        self.same(reach_rows(ticks=1), ((1, 2),))
        self.assertEqual(len(reach_rows(200)), 200)
        self.same(reach_rows(200)[199], (1, 2 ** 200))
        self.assertEqual(reach(ticks=200), pair(2 * sum(Fraction(*share) for share in reach_rows(200))))

    def test_grows_below_its_bound(self):
        told = [Fraction(*reach(ticks)) for ticks in range(0, 201)]
        for one, other in zip(told, told[1:]):
            self.assertLess(one, other)
        self.assertLess(told[-1], Fraction(23, 10))
        self.assertGreater(told[-1], Fraction(22, 10))

    def test_wrong_values(self):
        for value in [*NO_INTEGERS, -1, 201]:
            self.wrong(BadNumber("ticks"), reach, value)
            self.wrong(BadNumber("ticks"), reach_rows, value)

    def test_short_time(self):
        begin = time.perf_counter()
        for _ in range(5):
            reach(200)
            reach_rows(200)
        self.assertLess(time.perf_counter() - begin, 10)
