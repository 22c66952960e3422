"""Gaps of looks, told by odd heaps."""

import random
import time
from fractions import Fraction

from nodice.changes import change
from nodice.errors import BadHeaps, BadLook, BadNumber, Misfit
from nodice.looks import Look, visits, window
from nodice.papers import Paper
from nodice.told_gaps import Gap, counts_of, odd_heaps, told_gap
from nodice.worths_of_looks import look_gap
from tests.support import NO_INTEGERS, Case, odd_table, pair
from tests.test_changes import told_change
from tests.test_heaps import GREAT, MIXED, NO_HEAPS
from tests.test_lines import NO_LEFTS, some_start
from tests.test_looks import NO_LOOKS
from tests.test_worths_of_looks import some_look

ONE = Look([(0, 2, 1), (2, 2, -1)])


def drawn(maker, many, last=7):
    for _ in range(many):
        heaps, lefts = some_start(maker, 5, 20)
        yield some_look(maker, heaps[0][0] % 2 if heaps else 0, last), heaps, lefts


class OddHeaps(Case):
    def test_against_chips(self):
        maker = random.Random(41)
        for _ in range(60):
            heaps, lefts = some_start(maker, 5, 20)
            table = tuple(tuple(row) for row in odd_table(heaps, lefts, 10))
            for ticks in range(11):
                self.same(odd_heaps(heaps, lefts, ticks), table[:ticks])
            self.same(odd_heaps(heaps=heaps[::-1], lefts=tuple(lefts), ticks=10), table)

    def test_by_turns(self):
        # A spot's first odd heap goes as its hand shows, each later one the other way.
        for heaps, lefts in (([(0, GREAT - 1), (6, 12345)], [0, 1, 2, 3]), ([(1, 3), (-999999, 7)], [-999998])):
            hands = {spot: -1 for spot in lefts}
            for row in odd_heaps(heaps, lefts, 60):
                self.assertEqual(sorted(row), list(row))
                for spot, way in row:
                    self.assertEqual(way, hands.get(spot, 1))
                    hands[spot] = -way

    def test_edges(self):
        self.same(odd_heaps([], [0], 60), ((),) * 60)
        self.same(odd_heaps([], [], 0), ())
        self.same(odd_heaps([(0, 1)], [], 0), ())
        self.same(odd_heaps([(0, 2 ** 60)], [], 60), ((),) * 60)
        self.same(odd_heaps([(0, 2 ** 59)], [], 60)[59], tuple([
            (spot, 1) for spot in range(-59, 60) if spot % 2 and (59 & ((59 + spot) // 2)) == (59 + spot) // 2
        ]))
        self.same(odd_heaps([(1000000, 1)], [1000000], 2), (((1000000, -1),), ((999999, 1),)))

    def test_wrong_values(self):
        for value in NO_HEAPS:
            self.wrong(BadHeaps("heaps"), odd_heaps, value, None, None)
        for value in NO_LEFTS:
            self.wrong(BadNumber("lefts"), odd_heaps, MIXED[0], value, None)
        for value in [*NO_INTEGERS, -1, 61]:
            self.wrong(BadNumber("ticks"), odd_heaps, [(0, 1)], [], value)
            self.wrong(BadNumber("ticks"), odd_heaps, MIXED[0], [], value)
        for heaps in MIXED:
            self.wrong(Misfit("colour"), odd_heaps, heaps, [], 0)
            self.wrong(Misfit("colour"), odd_heaps, heaps, [], 60)


class ToldGap(Case):
    def test_against_chips(self):
        maker = random.Random(42)
        for look, heaps, lefts in drawn(maker, 60):
            chips, gap = [], Fraction(0)
            for tick, row in enumerate(odd_table(heaps, lefts, look.last)):
                for spot, way in row:
                    told = told_change(look, spot, tick)
                    gap += way * told
                    if told != 0:
                        chips.append((spot, tick, way))
            self.same(told_gap(look, heaps, lefts).parts, (pair(gap), tuple(chips)))

    def test_the_gap_is_the_worth_less_the_mean(self):
        maker = random.Random(43)
        for look, heaps, lefts in drawn(maker, 150, 9):
            self.same(told_gap(look, heaps, lefts).gap, look_gap(look, heaps, lefts))
        for last in (1, 30, 60):
            heaps, lefts = some_start(maker, 6, GREAT)
            look = some_look(maker, heaps[0][0] % 2 if heaps else 0, last, 40)
            told = told_gap(look=look, heaps=heaps, lefts=lefts)
            self.same(told.gap, look_gap(look, heaps, lefts))
            total = sum(way * Fraction(*change(look, spot, tick)) for spot, tick, way in told.chips)
            self.same(told.gap, pair(total))

    def test_what_changes_nothing_is_left_out(self):
        look = Look([(-1, 3, 1), (1, 5, 4)])
        # 0 is odd at the ticks 0, 2 and 4, but at tick 2 a chip from there changes nothing.
        heaps = [(0, 1), (2, 2)]
        self.assertEqual([(0, way) in row for way, row in zip((1, 0, -1, 0, 1), odd_table(heaps, [], 5))][::2], [True] * 3)
        told = told_gap(look, heaps, [])
        self.assertEqual([chip for chip in told.chips if chip[0] == 0], [(0, 0, 1), (0, 4, 1)])
        self.same(counts_of(look, heaps, [], 0), (17, 8))
        for spot, tick, _ in told.chips:
            self.assertNotEqual(change(look, spot, tick)[0], 0)

    def test_edges(self):
        self.same(told_gap(ONE, [], []).parts, ((0, 1), ()))
        self.same(told_gap(window(0, 1, 0), [(0, 5)], []).parts, ((0, 1), ()))
        self.same(told_gap(ONE, [(500, 5), (-1000000, 1)], []).parts, ((0, 1), ()))
        self.same(told_gap(window(0, 1, 60), [(0, 2 ** 60)], []).parts, ((0, 1), ()))

    def test_paper(self):
        told = told_gap(ONE, [[0, 3]], (0,))
        self.same((told.word, told.gap, told.chips), ("gap", (-3, 4), ((0, 0, -1), (1, 1, 1))))
        self.assertIs(bool(told), True)
        self.assertIs(told.__class__, Gap)
        self.assertEqual(Gap.__bases__, (Paper,))
        self.assertIs(told == Gap(chips=[[0, 0, -1], [1, 1, 1]], gap=[-3, 4]), True)
        self.assertIs(told == Gap((-3, 4), ()), False)
        self.same(Gap(None, [1, [2]]).parts, (None, (1, (2,))))
        self.assertIs(told_gap(ONE, [(0, 3)], [0]) == told, True)


class CountsOf(Case):
    def test_against_chips(self):
        maker = random.Random(44)
        for look, heaps, lefts in drawn(maker, 40):
            table = odd_table(heaps, lefts, look.last)
            total = Fraction(0)
            for spot in range(-14, 15):
                own = Fraction(0)
                for tick, row in enumerate(table):
                    own += sum(way * told_change(look, spot, tick) for at, way in row if at == spot)
                self.same(counts_of(look, heaps, lefts, spot), pair(own))
                total += own
            self.same(look_gap(look, heaps, lefts), pair(total))

    def test_edges(self):
        for spot in (7, -3, 10 ** 80, -(10 ** 80)):
            self.same(counts_of(ONE, [(0, 3)], [0], spot), (0, 1))
        self.same(counts_of(look=ONE, heaps=((0, 3),), lefts=(0,), spot=1), (-1, 1))
        self.same(counts_of(window(0, 1, 0), [(0, 3)], [], 0), (0, 1))


class Wrong(Case):
    def test_wrong_values(self):
        for value in NO_LOOKS:
            self.wrong(BadLook("look"), told_gap, value, None, None)
            self.wrong(BadLook("look"), counts_of, value, None, None, None)
        for value in NO_HEAPS:
            self.wrong(BadHeaps("heaps"), told_gap, ONE, value, None)
            self.wrong(BadHeaps("heaps"), counts_of, ONE, value, None, None)
        for value in NO_LEFTS:
            self.wrong(BadNumber("lefts"), told_gap, ONE, [(1, 1)], value)
            self.wrong(BadNumber("lefts"), counts_of, ONE, [(1, 1)], value, None)
        for value in NO_INTEGERS:
            self.wrong(BadNumber("spot"), counts_of, ONE, [(0, 1)], [], value)
            self.wrong(BadNumber("spot"), counts_of, ONE, [(1, 1)], [], value)
        for heaps in ([(1, 1)], [(1, 2), (3, 4)], [(0, 1), (1, 1)], [(0, 1), (2, 5), (-3, 1)]):
            self.wrong(Misfit("colour"), told_gap, ONE, heaps, [])
            self.wrong(Misfit("colour"), counts_of, ONE, heaps, [], 0)
        self.wrong(Misfit("colour"), told_gap, window(0, 1, 1), [(0, 1)], [])

    def test_short_time(self):
        begin = time.perf_counter()
        heaps = [(200 * spot, GREAT - spot) for spot in range(60)]
        look = Look([(200 * k, 60, 1000000 - k) for k in range(40)])
        odd_heaps(heaps, list(range(400)), 60)
        told = told_gap(look, heaps, list(range(400)))
        self.assertGreater(len(told.chips), 5000)
        self.same(told.gap, look_gap(look, heaps, list(range(400))))
        counts_of(visits(0, 60), heaps, list(range(400)), 0)
        self.assertLess(time.perf_counter() - begin, 20)
