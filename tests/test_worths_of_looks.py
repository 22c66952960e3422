"""Worths, means and gaps of looks."""

import random
import time
from fractions import Fraction

from nodice.errors import BadHeaps, BadLook, BadNumber, Misfit
from nodice.gaps import gap_at
from nodice.looks import Look, joined_looks, scaled_look, visits, window
from nodice.worths_of_looks import look_gap, look_mean, look_worth
from tests.support import NO_INTEGERS, Case, pair, played, split_means
from tests.test_heaps import GREAT, NO_HEAPS
from tests.test_lines import NO_LEFTS, some_start
from tests.test_looks import NO_LOOKS


def some_look(maker, colour, last, many=6):
    places = [(s, t) for s in range(-8, 9) for t in range(last + 1) if (s + t) % 2 == colour]
    rows = maker.sample(places, min(len(places), maker.randrange(1, many)))
    return Look([(s, t, maker.choice([-7, -1, 1, 2, 1000000])) for s, t in rows])


class Worths(Case):
    def test_against_chips(self):
        maker = random.Random(13)
        for _ in range(80):
            heaps, lefts = some_start(maker, 5, 20)
            look = some_look(maker, heaps[0][0] % 2 if heaps else maker.randrange(2), 9)
            worth, mean = 0, Fraction(0)
            for spot, tick, weight in look.rows:
                worth += weight * played(heaps, lefts, tick)[0].get(spot, 0)
                mean += weight * split_means(heaps, tick).get(spot, Fraction(0))
            self.same(look_worth(look, heaps, lefts), worth)
            self.same(look_mean(look, heaps), pair(mean))
            self.same(look_gap(look, heaps, lefts), pair(worth - mean))

    def test_the_gap_is_the_worth_less_the_mean(self):
        maker = random.Random(14)
        for last in (0, 1, 30, 60):
            for _ in range(5):
                heaps, lefts = some_start(maker, 6, GREAT)
                look = some_look(maker, heaps[0][0] % 2 if heaps else 0, last, 40)
                worth, mean = look_worth(look, heaps, lefts), Fraction(*look_mean(look, heaps))
                self.same(look_gap(look, heaps, lefts), pair(worth - mean))

    def test_a_look_at_one_spot_has_its_gap(self):
        heaps, lefts = [(0, 1001), (4, 7)], [0, 2, 5]
        for tick in range(0, 61, 6):
            self.same(look_gap(window(2, 1, tick), heaps, lefts), gap_at(heaps, lefts, 2, tick))

    def test_they_are_added(self):
        heaps, lefts = [(0, 77), (2, 5)], [0, 1, 2]
        one, other = Look([(0, 4, 3), (2, 2, -1)]), Look([(0, 4, -2), (1, 5, 9)])
        both = joined_looks(one, other)
        for call in (look_mean, look_gap):
            rest = (heaps,) if call is look_mean else (heaps, lefts)
            told = [Fraction(*call(look, *rest)) for look in (one, other, both, scaled_look(one, -5))]
            self.assertEqual(told[0] + told[1], told[2])
            self.assertEqual(told[0] * -5, told[3])

    def test_edges(self):
        look = Look([(1, 1, 5), (0, 2, -3)])
        self.same(look_worth(look, [], [1]), 0)
        self.same(look_mean(look, ()), (0, 1))
        self.same(look_gap(look=look, heaps=[], lefts=[]), (0, 1))
        at_once = window(4, 1, 0)
        self.same(look_worth(look=at_once, heaps=[[4, 9]], lefts=()), 9)
        self.same(look_mean(look=at_once, heaps=[[4, 9]]), (9, 1))
        self.same(look_gap(at_once, [[4, 9]], ()), (0, 1))

    def test_wrong_values(self):
        look = window(0, 1, 2)
        for value in NO_LOOKS:
            self.wrong(BadLook("look"), look_worth, value, None, None)
            self.wrong(BadLook("look"), look_mean, value, None)
            self.wrong(BadLook("look"), look_gap, value, None, None)
        for value in NO_HEAPS:
            self.wrong(BadHeaps("heaps"), look_worth, look, value, None)
            self.wrong(BadHeaps("heaps"), look_mean, look, value)
            self.wrong(BadHeaps("heaps"), look_gap, look, value, None)
        for value in NO_LEFTS:
            self.wrong(BadNumber("lefts"), look_worth, look, [(1, 1)], value)
            self.wrong(BadNumber("lefts"), look_gap, look, [(1, 1)], value)
        for heaps in ([(1, 1)], [(1, 2), (3, 4)], [(0, 1), (1, 1)], [(0, 1), (2, 5), (-3, 1)]):
            self.wrong(Misfit("colour"), look_worth, look, heaps, [])
            self.wrong(Misfit("colour"), look_mean, look, heaps)
            self.wrong(Misfit("colour"), look_gap, look, heaps, [])
        self.wrong(Misfit("colour"), look_gap, window(0, 1, 1), [(0, 1)], [])

    def test_what_was_passed_stays(self):
        heaps, lefts = [[2, 3], [0, 1]], [5, 1]
        look_gap(visits(0, 6), heaps, lefts)
        self.assertEqual((heaps, lefts), ([[2, 3], [0, 1]], [5, 1]))

    def test_short_time(self):
        begin = time.perf_counter()
        heaps = [(500 * spot, GREAT - spot) for spot in range(60)]
        look = Look([(2 * k, 60 - 2 * (k % 20), 1000000 - k) for k in range(40)])
        for _ in range(5):
            look_gap(look, heaps, list(range(400)))
        self.assertLess(time.perf_counter() - begin, 20)


class Numbers(Case):
    def test_no_spots_are_asked(self):
        for value in NO_INTEGERS:
            self.wrong(BadHeaps("heaps"), look_mean, window(0, 1, 0), [(value, 1)])
