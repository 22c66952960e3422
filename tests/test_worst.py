"""Worst starts of looks."""

import random
import time
from fractions import Fraction

from nodice.changes import touched
from nodice.errors import BadLook, BadNumber, Misfit, TooMany
from nodice.heaps import colour_of
from nodice.looks import Look, scaled_look, visits, window
from nodice.papers import Paper
from nodice.reaches import reach_by, reach_of
from nodice.worst import Worst, worst_by, worst_start
from nodice.worths_of_looks import look_gap
from tests.support import Case, pair, played, split_means
from tests.test_lines import NO_LEFTS
from tests.test_looks import NO_LOOKS
from tests.test_worths_of_looks import some_look

FAR = 999900
STILL = Look([(-1, 3, 1), (1, 5, 4)])
# The outermost spots of each lie as far apart as 60 heaps let.
GREATEST = [
    window(0, 1, 59), window(-40, 2, 58), window(3, 20, 40), window(0, 40, 20), Look([(0, 59, -1000000), (0, 1, 7)]),
    Look([(0, 1, 5), (116, 1, -5), (58, 1, 2)]), Look([(0, 30, 1), (58, 30, -1), (20, 4, -3), (21, 29, 9)]),
    Look([(-59, 0, 3), (59, 0, 4)]), visits(7, 59),
    Look([(k % 20 * 2, 40 - 2 * (k // 20), (-1) ** k * (k + 1)) for k in range(40)]),
]


def some_looks():
    maker = random.Random(81)
    return [some_look(maker, colour, last, 9) for colour in (0, 1) for last in range(12) for _ in range(4)]


class Worsts(Case):
    def need_start(self, look, told):
        """What [4] and [11] want of each worst start."""
        self.assertIs(told.__class__, Worst)
        self.assertIn(colour_of(told.heaps), (look.colour, None))
        self.assertLessEqual(len(told.heaps), 60)
        self.assertEqual(list(told.heaps), sorted(told.heaps))
        self.assertEqual(list(told.lefts), sorted(set(told.lefts)))
        low, high = min(row[0] for row in look.rows) - look.last, max(row[0] for row in look.rows) + look.last
        for spot, many in told.heaps:
            self.assertTrue(low <= spot <= high)
            self.assertLess(many, 2 ** look.last)

    def test_chip_by_chip(self):
        for look in [look for look in some_looks() if look.last < 8]:
            told = worst_start(look)
            gap = Fraction(0)
            for spot, tick, weight in look.rows:
                chips, _ = played(told.heaps, told.lefts, tick)
                gap += weight * (chips.get(spot, 0) - split_means(told.heaps, tick).get(spot, 0))
            self.same(reach_of(look), pair(gap))

    def test_the_gap_is_the_reach(self):
        for look in [*some_looks(), *GREATEST, STILL, window(5, 1, 1)]:
            for by in (1, -1):
                turned = scaled_look(look, by)
                told = worst_start(turned)
                self.need_start(turned, told)
                self.same(look_gap(turned, told.heaps, told.lefts), reach_of(turned))

    def test_by_lefts(self):
        maker = random.Random(82)
        for look in [*some_looks(), *GREATEST, STILL]:
            spots = touched(look)
            for lefts in ([], list(spots), maker.sample(range(-30, 31), 20), [1000000, -1000000]):
                told = worst_by(look, lefts)
                self.need_start(look, told)
                self.same(told.lefts, tuple(sorted(lefts)))
                self.same(look_gap(look, told.heaps, told.lefts), reach_by(look, lefts)[1])

    def test_by_its_own_lefts(self):
        for look in [*some_looks(), *GREATEST]:
            told = worst_start(look)
            self.same(reach_by(look, told.lefts)[1], reach_of(look))
            own = worst_by(look, told.lefts)
            self.same(look_gap(look, own.heaps, own.lefts), reach_of(look))

    def test_some_known(self):
        told = worst_start(window(0, 1, 1))
        self.same(look_gap(window(0, 1, 1), told.heaps, told.lefts), (1, 1))
        told = worst_start(STILL)
        self.same(look_gap(STILL, told.heaps, told.lefts), (9, 1))
        told = worst_by(window(0, 1, 1), [1])
        self.same(look_gap(window(0, 1, 1), told.heaps, told.lefts), (1, 1))
        told = worst_by(window(0, 1, 1), [-1])
        self.same(look_gap(window(0, 1, 1), told.heaps, told.lefts), (0, 1))

    def test_no_ticks(self):
        for look in (window(0, 3, 0), Look([(FAR, 0, 5)]), Look([(1, 0, -2)])):
            self.same(worst_start(look).parts, ((), ()))
            told = worst_by(look, [5, -1])
            self.same(told.lefts, (-1, 5))
            self.same(look_gap(look, told.heaps, told.lefts), (0, 1))

    def test_far_out(self):
        for spot in (FAR, -FAR):
            look = Look([(spot, 59, 3)])
            told = worst_start(look)
            self.need_start(look, told)
            self.same(look_gap(look, told.heaps, told.lefts), reach_of(look))
            farther = Look([(spot + spot // FAR, 59, 3)])
            self.wrong(Misfit("look"), worst_start, farther)
            self.wrong(Misfit("look"), worst_by, farther, [])

    def test_paper(self):
        told = worst_start(look=STILL)
        self.same((told.word, told.parts), ("worst", (told.heaps, told.lefts)))
        self.assertIs(bool(told), True)
        self.assertEqual(Worst.__bases__, (Paper,))
        by_hand = Worst(lefts=list(told.lefts), heaps=[list(heap) for heap in told.heaps])
        self.assertIs(told == by_hand, True)
        self.assertIs(told == Worst(told.heaps, ()), False)
        self.same(Worst([None], {}).parts, ((None,), {}))

    def test_again(self):
        for look in (STILL, window(0, 3, 9)):
            again = Look([list(row) for row in look.rows[::-1]])
            self.assertIs(worst_start(look) == worst_start(again), True)
            self.assertIs(worst_by(look=look, lefts=[3, 1, 2]) == worst_by(again, (1, 2, 3)), True)


class Wrong(Case):
    def test_wrong_values(self):
        for value in NO_LOOKS:
            self.wrong(BadLook("look"), worst_start, value)
            self.wrong(BadLook("look"), worst_by, value, None)
        far = Look([(FAR + 1, 2, 1), (-FAR - 1, 60, 1)])
        for value in NO_LEFTS:
            self.wrong(BadNumber("lefts"), worst_by, STILL, value)
            self.wrong(BadNumber("lefts"), worst_by, far, value)

    def test_no_start_fits(self):
        for look in (Look([(1000000, 2, 1)]), Look([(0, 0, 1), (-FAR - 2, 0, 1)]), Look([(FAR + 1, 60, 1), (0, 1, 1)])):
            self.wrong(Misfit("look"), worst_start, look)
            self.wrong(Misfit("look"), worst_by, look, [])

    def test_most_heaps(self):
        for look in (
            window(0, 1, 60), window(0, 2, 59), window(0, 40, 21), window(0, 21, 40), Look([(0, 1, 1), (118, 1, 1)]),
            Look([(0, 0, 1), (120, 0, 1)]), Look([(FAR, 0, 1), (-FAR, 0, 1)]), Look([(0, 60, 1)]),
            Look([(0, 40, 1), (39, 3, 1)]), Look([(0, 40, 1), (0, 2, 3), (-40, 2, 1)]),
        ):
            self.wrong(TooMany("heaps", 60), worst_start, look)
            self.wrong(TooMany("heaps", 60), worst_by, look, [1])
        for look in GREATEST:
            self.assertIs(bool(worst_start(look)), True)
        self.assertEqual(len(worst_start(window(0, 1, 59)).heaps), 60)

    def test_short_time(self):
        begin = time.perf_counter()
        for look in GREATEST:
            worst_start(look)
            worst_by(look, list(range(400)))
        self.assertLess(time.perf_counter() - begin, 20)
