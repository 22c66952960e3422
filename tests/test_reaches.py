"""Reaches of looks, and that no start goes beyond them."""

import random
import time
from fractions import Fraction

from nodice.changes import touched
from nodice.errors import BadLook, BadNumber
from nodice.firsts import reach
from nodice.looks import Look, joined_looks, moved_look, scaled_look, visits, window
from nodice.reaches import reach_by, reach_of
from nodice.worths_of_looks import look_gap
from tests.support import Case, pair, sums_by_turns
from tests.test_changes import told_change
from tests.test_lines import NO_LEFTS, some_start
from tests.test_looks import NO_LOOKS
from tests.test_worths_of_looks import some_look

STILL = Look([(-1, 3, 1), (1, 5, 4)])


def told_changes(look, spot):
    """As [8] tells them: at all ticks ahead of the last one at which the spot is of the look's colour."""
    return [pair(told_change(look, spot, tick)) for tick in range(look.last) if (spot + tick) % 2 == look.colour]


def told_reaches(look, lefts, spots):
    """The reach, and the reaches by lefts, by all choices for each spot."""
    most, low, high = Fraction(0), Fraction(0), Fraction(0)
    for spot in spots:
        sums = list(sums_by_turns(told_changes(look, spot)))
        most += max(total for total, _, _ in sums)
        by_hand = [total for total, _, sign in sums if sign == (-1 if spot in lefts else 1)]
        low += min(by_hand)
        high += max(by_hand)
    return pair(most), (pair(low), pair(high))


def some_looks(maker, most_last):
    return [some_look(maker, colour, last) for colour in (0, 1) for last in range(most_last + 1) for _ in range(3)]


class Reaches(Case):
    def test_against_all_choices(self):
        maker = random.Random(31)
        mixed = Look([(1, 1, 1), (2, 2, -2), (0, 4, 3), (1, 5, -1)])
        for look in [*some_looks(maker, 7), STILL, mixed, visits(0, 8), window(-3, 4, 6)]:
            for many in (0, 3, 12):
                lefts = maker.sample(range(-15, 16), many)
                most, by_lefts = told_reaches(look, lefts, range(-17, 18))
                self.same(reach_of(look), most)
                self.same(reach_by(look, lefts), by_lefts)

    def test_spot_by_spot(self):
        # Of all hands just those of touched spots tell, each by itself.
        for look in (STILL, window(0, 2, 4), visits(1, 6)):
            low, high = [Fraction(*told) for told in reach_by(look, [])]
            for spot in range(-9, 10):
                _, (one_low, one_high) = told_reaches(look, [spot], [spot])
                _, (right_low, right_high) = told_reaches(look, [], [spot])
                wanted = (
                    pair(low + Fraction(*one_low) - Fraction(*right_low)),
                    pair(high + Fraction(*one_high) - Fraction(*right_high)),
                )
                self.same(reach_by(look, [spot]), wanted)
                if spot not in touched(look):
                    self.same(reach_by(look, [spot]), reach_by(look, []))

    def test_one_row(self):
        for tick in range(61):
            for spot in (0, 7, -1000000):
                self.same(reach_of(Look([(spot, tick, 1)])), reach(tick))
                self.same(reach_of(Look([(spot, tick, -1)])), reach(tick))

    def test_scaled(self):
        maker = random.Random(32)
        for look in [STILL, *some_looks(maker, 6)]:
            for by in (-1, -3, 2):
                if max(abs(row[2]) for row in look.rows) * abs(by) <= 1000000:
                    self.same(reach_of(scaled_look(look, by)), pair(Fraction(*reach_of(look)) * abs(by)))
            if max(abs(row[2]) for row in look.rows) <= 1000000:
                low, high = reach_by(look, [0, 3])
                self.same(reach_by(scaled_look(look, -1), [0, 3]), ((-high[0], high[1]), (-low[0], low[1])))

    def test_moved(self):
        for look in (STILL, window(0, 3, 9), Look([(0, 4, 5), (3, 5, -2)])):
            for spots in (1, -8, 1000):
                moved = moved_look(look, spots, 0)
                self.same(reach_of(moved), reach_of(look))
                self.same(reach_by(moved, [spots, 1 + spots]), reach_by(look, [0, 1]))

    def test_in_a_mirror(self):
        # In a mirror all changes are turned over: so it reaches as far with all hands turned, too.
        for look in (STILL, window(0, 3, 9), Look([(0, 4, 5), (3, 5, -2)])):
            mirror = Look([(-spot, tick, weight) for spot, tick, weight in look.rows])
            self.same(reach_of(mirror), reach_of(look))
            lefts = [spot for spot in touched(look) if spot % 3]
            others = [-spot for spot in touched(look) if spot % 3 == 0]
            self.same(reach_by(mirror, others), reach_by(look, lefts))

    def test_joined(self):
        maker = random.Random(33)
        for colour in (0, 1):
            for _ in range(20):
                one, other = some_look(maker, colour, 6), some_look(maker, colour, 6)
                both = [*one.rows, *[row for row in other.rows if row[:2] not in {told[:2] for told in one.rows}]]
                rest = [row for row in both if row not in one.rows]
                if rest:
                    self.assertLessEqual(
                        Fraction(*reach_of(joined_looks(one, Look(rest)))),
                        Fraction(*reach_of(one)) + Fraction(*reach_of(Look(rest))),
                    )
        # Far apart nothing meets: the reaches are added.
        apart = joined_looks(window(0, 1, 8), Look([(100, 8, -5)]))
        self.same(reach_of(apart), pair(6 * Fraction(*reach(8))))

    def test_nothing(self):
        for look in (Look([(0, 0, 5), (2, 0, -1)]), Look([(1000000, 0, 1)])):
            self.same(reach_of(look), (0, 1))
            self.same(reach_by(look, [0, 1, 2]), ((0, 1), (0, 1)))

    def test_lefts(self):
        look = window(0, 2, 8)
        far = [1000000, -1000000, 500]
        self.same(reach_by(look, far), reach_by(look, []))
        self.same(reach_by(look=look, lefts=(3, 1, 0)), reach_by(look, [0, 1, 3]))
        self.same(reach_by(look, list(range(-200, 200))), reach_by(look, touched(look)))
        self.wrong(BadNumber("lefts"), reach_by, look, list(range(-200, 201)))

    def test_wrong_values(self):
        for value in NO_LOOKS:
            self.wrong(BadLook("look"), reach_of, value)
            self.wrong(BadLook("look"), reach_by, value, [])
            self.wrong(BadLook("look"), reach_by, value, None)
        for value in NO_LEFTS:
            self.wrong(BadNumber("lefts"), reach_by, STILL, value)

    def test_short_time(self):
        begin = time.perf_counter()
        for look in (
            Look([(200 * k, 60, 1000000 - k) for k in range(40)]),
            Look([(2 * (k % 20), 60 - 2 * (k // 20), (-1) ** k * (1000000 - k)) for k in range(40)]),
        ):
            self.assertLessEqual(Fraction(*reach_by(look, list(range(400)))[1]), Fraction(*reach_of(look)))
        self.assertLess(time.perf_counter() - begin, 20)


class NoStartGoesBeyond(Case):
    def test_drawn_looks_and_starts(self):
        maker = random.Random(34)
        for _ in range(400):
            heaps, lefts = some_start(maker, 6, maker.choice([1, 3, 50, 10 ** 9]))
            look = some_look(maker, heaps[0][0] % 2 if heaps else 0, maker.choice([0, 1, 2, 3, 5, 9]))
            gap = Fraction(*look_gap(look, heaps, lefts))
            most = Fraction(*reach_of(look))
            low, high = [Fraction(*told) for told in reach_by(look, lefts)]
            self.assertLessEqual(abs(gap), most)
            self.assertLessEqual(low, gap)
            self.assertLessEqual(gap, high)
            self.assertLessEqual(max(abs(low), high), most)
            self.assertLessEqual(low, 0)
            self.assertLessEqual(0, high)
