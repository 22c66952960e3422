"""Wishes, and starts that grant them."""

import random
import time
from itertools import product

from nodice.errors import BadHeaps, BadNumber, Misfit
from nodice.heaps import colour_of
from nodice.told_gaps import odd_heaps
from nodice.wishes import oddness, start_for
from tests.support import NO_INTEGERS, NO_LISTS, Case, odd_table
from tests.test_heaps import FAR, GREAT, MIXED, NO_HEAPS
from tests.test_lines import NO_LEFTS, some_start

NEAR = 999900
NO_WISHES = [
    *NO_LISTS, [1], [None], ["ab"], [[]], [(1,)], [(0, 0, 0)], [(0, 0), 5], [(0, 0), None], [(0, 0), [0, 0]],
    [(0, 0), (1, 1), (0, 0)], {(0, 0)}, {(0, 0): 1}, [{0: 0, 1: 1}], (0, 0), [0, 0],
    *[[(value, 0)] for value in NO_INTEGERS], *[[(0, value)] for value in NO_INTEGERS],
    *[[(0, 0), (value, 0)] for value in NO_INTEGERS],
]


def places(colour, low, high, ticks):
    return [(s, t) for s in range(low, high + 1) for t in range(ticks) if (s + t) % 2 == colour]


def odd_field(heaps, lefts, low, high, ticks):
    """Chip by chip."""
    table = odd_table(heaps, lefts, ticks)
    return tuple(sorted((s, t) for t, row in enumerate(table) for s, _ in row if low <= s <= high))


class Granted(Case):
    def try_wish(self, lefts, wish, colour, low, high, ticks):
        heaps = start_for(lefts, wish, colour, low, high, ticks)
        self.same(odd_field(heaps, lefts, low, high, ticks), tuple(sorted(tuple(pair) for pair in wish)))
        self.same(oddness(heaps, lefts, low, high, ticks), tuple(sorted(tuple(pair) for pair in wish)))
        self.assertIn(colour_of(heaps), (colour, None))
        self.assertIs(heaps.__class__, tuple)
        self.assertEqual(list(heaps), sorted(heaps))
        return heaps

    def test_each_wish(self):
        for colour, low, high, ticks in ((0, 0, 2, 3), (1, 0, 2, 3), (1, -1, 1, 2), (0, -2, 2, 2), (0, 5, 5, 4), (1, 5, 5, 4)):
            all_places = places(colour, low, high, ticks)
            for told in product((False, True), repeat=len(all_places)):
                wish = [place for place, odd in zip(all_places, told) if odd]
                for lefts in ([], [low], [low, low + 1, 40], list(range(-9, 12))):
                    self.try_wish(lefts, wish, colour, low, high, ticks)

    def test_drawn(self):
        maker = random.Random(61)
        for _ in range(40):
            low, ticks, colour = maker.randrange(-30, 30), maker.randrange(6), maker.randrange(2)
            high = low + maker.randrange(12)
            all_places = places(colour, low, high, ticks)
            wish = maker.sample(all_places, maker.randrange(len(all_places) + 1))
            self.try_wish(maker.sample(range(-50, 60), maker.randrange(60)), wish, colour, low, high, ticks)

    def test_at_the_bounds(self):
        maker = random.Random(62)
        for low in (NEAR, -NEAR, 0, 1):
            for colour in (0, 1):
                high = low + 80
                all_places = places(colour, low, high, 10)
                for wish in (all_places, [], maker.sample(all_places, 200), all_places[:1], all_places[-1:]):
                    lefts = maker.sample(range(low - 20, high + 20), 60) if abs(low) < 10 else [low, high]
                    heaps = start_for(lefts, wish, colour, low, high, 10)
                    self.same(oddness(heaps, lefts, low, high, 10), tuple(sorted(wish)))
                    self.assertLessEqual(len(heaps), 60)
                    self.assertLessEqual(max([abs(spot) for spot, _ in heaps], default=0), FAR)

    def test_no_chips_are_wished(self):
        self.same(start_for([], [], 0, -5, 5, 10), ())
        self.same(start_for([], [], 1, 0, 80, 0), ())
        self.same(start_for(lefts=[1], wish=(), colour=1, low=3, high=3, ticks=1), ())

    def test_where_the_heaps_lie(self):
        maker = random.Random(63)
        for _ in range(30):
            ticks = maker.randrange(1, 11)
            all_places = places(0, -4, 4, ticks)
            wish = maker.sample(all_places, maker.randrange(len(all_places) + 1))
            for spot, _ in start_for([0, 1], wish, 0, -4, 4, ticks):
                self.assertIn(spot, range(-4, 4 + ticks))

    def test_again(self):
        wish, lefts = [(0, 0), (1, 1), (3, 3)], [4, 0]
        told = start_for(lefts, wish, 0, -4, 4, 4)
        self.same(start_for(tuple(lefts), tuple([list(pair) for pair in wish]), 0, -4, 4, 4), told)
        self.same(start_for(lefts, wish, 0, -4, 4, 4), told)
        self.same((wish, lefts), ([(0, 0), (1, 1), (3, 3)], [4, 0]))


class Oddness(Case):
    def test_against_chips(self):
        maker = random.Random(64)
        for _ in range(60):
            heaps, lefts = some_start(maker, 5, 20)
            low = maker.randrange(-12, 8)
            high = low + maker.randrange(12)
            for ticks in (0, 1, 2, 5, 10):
                self.same(oddness(heaps, lefts, low, high, ticks), odd_field(heaps, lefts, low, high, ticks))

    def test_as_odd_heaps(self):
        heaps, lefts = [(0, GREAT - 1), (80, 12345), (4, 77)], list(range(-9, 99, 3))
        told = odd_heaps(heaps, lefts, 10)
        wanted = sorted((s, t) for t, row in enumerate(told) for s, _ in row if 0 <= s <= 80)
        self.same(oddness(heaps=tuple(heaps), lefts=tuple(lefts), low=0, high=80, ticks=10), tuple(wanted))

    def test_wrong_values(self):
        for value in NO_HEAPS:
            self.wrong(BadHeaps("heaps"), oddness, value, None, None, None, None)
        for value in NO_LEFTS:
            self.wrong(BadNumber("lefts"), oddness, MIXED[0], value, None, None, None)
        for value in [*NO_INTEGERS, NEAR + 1, -NEAR - 1]:
            self.wrong(BadNumber("low"), oddness, MIXED[0], [], value, None, None)
        for value in [*NO_INTEGERS, 4, 86]:
            self.wrong(BadNumber("high"), oddness, MIXED[0], [], 5, value, None)
        for value in [*NO_INTEGERS, -1, 11]:
            self.wrong(BadNumber("ticks"), oddness, MIXED[0], [], 5, 5, value)
        for heaps in MIXED:
            self.wrong(Misfit("colour"), oddness, heaps, [], 5, 5, 0)


class WrongWishes(Case):
    def test_wrong_values(self):
        for value in NO_LEFTS:
            self.wrong(BadNumber("lefts"), start_for, value, None, None, None, None, None)
        for value in NO_WISHES:
            self.wrong(BadNumber("wish"), start_for, [], value, None, None, None, None)
            self.wrong(BadNumber("wish"), start_for, [], value, 0, 0, 5, 5)
        for value in [*NO_INTEGERS, -1, 2, 10 ** 70]:
            self.wrong(BadNumber("colour"), start_for, [], [(9, 9)], value, None, None, None)
        for value in [*NO_INTEGERS, NEAR + 1, -NEAR - 1]:
            self.wrong(BadNumber("low"), start_for, [], [(9, 9)], 1, value, None, None)
        for low in (0, NEAR, -NEAR):
            for value in [*NO_INTEGERS, low - 1, low + 81]:
                self.wrong(BadNumber("high"), start_for, [], [(9, 9)], 1, low, value, None)
        for value in [*NO_INTEGERS, -1, 11]:
            self.wrong(BadNumber("ticks"), start_for, [], [(9, 9)], 1, 0, 5, value)

    def test_misfits(self):
        for wish in ([(-1, 1)], [(6, 0)], [(0, -2)], [(1, -1)], [(0, 4)], [(10 ** 70, 0)], [(0, 0), (2, 10 ** 70)], [(1, 4)]):
            self.wrong(Misfit("wish"), start_for, [], wish, 0, 0, 5, 4)
            # A pair of the other colour, too.
            self.wrong(Misfit("wish"), start_for, [], [(0, 1), *wish], 0, 0, 5, 4)
        self.wrong(Misfit("wish"), start_for, [], [(0, 0)], 0, 0, 5, 0)
        for wish in ([(0, 1)], [(0, 0), (1, 1), (1, 0)], [(5, 0)], ([4, 3],)):
            self.wrong(Misfit("colour"), start_for, [], wish, 0, 0, 5, 4)
        self.wrong(Misfit("colour"), start_for, [], [(0, 0)], 1, 0, 5, 4)
        for wish in ([(0, 0)], [(5, 3)], [(5, 3), (0, 0)]):
            self.assertEqual(oddness(start_for([], wish, 0, 0, 5, 4), [], 0, 5, 4), tuple(sorted(wish)))

    def test_short_time(self):
        begin = time.perf_counter()
        for _ in range(20):
            start_for(list(range(400)), places(0, 0, 80, 10), 0, 0, 80, 10)
        self.assertLess(time.perf_counter() - begin, 20)
