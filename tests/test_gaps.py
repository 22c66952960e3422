"""Gaps, which are never beyond the reach."""

import random
from fractions import Fraction

from nodice.errors import BadHeaps, BadNumber, Misfit
from nodice.firsts import reach
from nodice.gaps import gap_at, gaps
from tests.support import NO_INTEGERS, Case, pair, played, split_means
from tests.test_heaps import GREAT, MIXED, NO_HEAPS
from tests.test_lines import NO_LEFTS, some_start


class Gaps(Case):
    def test_against_chips(self):
        maker = random.Random(8)
        for _ in range(60):
            heaps, lefts = some_start(maker, 5, 30)
            for ticks in (0, 1, 2, 3, 7, 10):
                chips, _ = played(heaps, lefts, ticks)
                mean = split_means(heaps, ticks)
                wanted = {spot: chips.get(spot, 0) - mean.get(spot, 0) for spot in range(-25, 26)}
                for spot, gap in wanted.items():
                    self.same(gap_at(heaps, lefts, spot, ticks), pair(gap))
                self.same(
                    gaps(heaps, lefts, ticks),
                    tuple((spot, pair(gap)) for spot, gap in wanted.items() if gap != 0),
                )

    def test_all_gaps_are_nothing(self):
        maker = random.Random(9)
        for ticks in (1, 2, 30, 59, 60):
            heaps, lefts = some_start(maker, 6, GREAT)
            told = gaps(heaps, lefts, ticks)
            self.assertEqual(sum(Fraction(*gap) for _, gap in told), 0)
            for spot, gap in told:
                self.same(gap_at(heaps, lefts, spot, ticks), gap)

    def test_never_beyond_the_reach(self):
        maker = random.Random(11)
        for _ in range(60):
            heaps, lefts = some_start(maker, 6, 10 ** maker.randrange(1, 20))
            for ticks in (0, 1, 2, 3, 5, 8, 60):
                most = Fraction(*reach(ticks))
                for _, gap in gaps(heaps, lefts, ticks):
                    self.assertLessEqual(abs(Fraction(*gap)), most)

    def test_reach_is_reached(self):
        self.same(gap_at([(-1, 1), (1, 1)], [1], 0, 1), reach(1))
        self.same(gap_at([(-1, 1), (1, 1)], [-1], 0, 1), (-1, 1))

    def test_order_and_kinds(self):
        for heaps in ([(-1, 1), (1, 3)], ([1, 3], [-1, 1])):
            for lefts in ([1, 0], (0, 1)):
                self.same(gap_at(heaps=heaps, lefts=lefts, spot=0, ticks=1), (1, 1))
                self.same(gaps(heaps=heaps, lefts=lefts, ticks=1), ((-2, (-1, 2)), (0, (1, 1)), (2, (-1, 2))))

    def test_edges(self):
        self.same(gap_at([], [], 0, 60), (0, 1))
        self.same(gap_at([(0, 5)], [], 0, 0), (0, 1))
        self.same(gap_at([(0, 5)], [], 1, 2), (0, 1))
        self.same(gap_at([(0, 5)], [], 10 ** 70, 60), (0, 1))
        self.same(gaps([(0, 5)], [3], 0), ())
        self.same(gaps([(0, 2 ** 60)], [], 60), ())
        self.same(gaps([], [1], 60), ())

    def test_wrong_values(self):
        for value in NO_HEAPS:
            self.wrong(BadHeaps("heaps"), gap_at, value, [], 0, 0)
            self.wrong(BadHeaps("heaps"), gap_at, value, None, None, None)
            self.wrong(BadHeaps("heaps"), gaps, value, None, None)
        for value in NO_LEFTS:
            self.wrong(BadNumber("lefts"), gap_at, [], value, 0, 0)
            self.wrong(BadNumber("lefts"), gap_at, MIXED[0], value, None, None)
            self.wrong(BadNumber("lefts"), gaps, MIXED[0], value, None)
        for value in NO_INTEGERS:
            self.wrong(BadNumber("spot"), gap_at, [], [], value, 0)
            self.wrong(BadNumber("spot"), gap_at, MIXED[0], [], value, None)
        for value in [*NO_INTEGERS, -1, 61]:
            self.wrong(BadNumber("ticks"), gap_at, [], [], 0, value)
            self.wrong(BadNumber("ticks"), gap_at, MIXED[0], [], 0, value)
            self.wrong(BadNumber("ticks"), gaps, MIXED[0], [], value)
        for heaps in MIXED:
            self.wrong(Misfit("colour"), gap_at, heaps, [], 0, 0)
            self.wrong(Misfit("colour"), gaps, heaps, [], 60)

    def test_great_heaps(self):
        heaps = [(2000 * spot + 1, GREAT - spot) for spot in range(60)]
        told = gaps(heaps, list(range(400)), 60)
        self.assertEqual(sum(Fraction(*gap) for _, gap in told), 0)
        self.assertLessEqual(max(abs(Fraction(*gap)) for _, gap in told), Fraction(*reach(60)))
