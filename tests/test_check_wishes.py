"""Whether heaps grant a wish."""

import random

from nodice.check_wishes import shows_start
from nodice.errors import BadNumber, Misfit
from nodice.papers import Paper
from nodice.wishes import start_for
from tests.support import NO_INTEGERS, Case, changed
from tests.test_heaps import FAR, GREAT, MIXED, NO_HEAPS
from tests.test_lines import NO_LEFTS, some_start
from tests.test_wishes import NEAR, NO_WISHES, odd_field, places

WISHES = [
    ([], [(0, 0), (1, 1)], 0, -2, 2, 2), ([0, 1], [(0, 0), (1, 1)], 0, -2, 2, 3), ([], [], 1, 0, 0, 3),
    ([3], [(0, 1), (2, 1), (1, 2)], 1, 0, 3, 3), ([], [], 0, 0, 5, 0),
]


def are_small_heaps(value):
    """Whether a value is heaps, none so great that they cannot be sent chip by chip."""
    if not isinstance(value, (list, tuple)) or not all(isinstance(heap, (list, tuple)) for heap in value):
        return False
    if not all(len(heap) == 2 and [part.__class__ for part in heap] == [int, int] for heap in value):
        return False
    return all(many > 0 for _, many in value) and len({spot for spot, _ in value}) == len(value)


class ShowsStart(Case):
    def try_one(self, told, value):
        lefts, wish, colour, low, high, ticks = told
        wanted = are_small_heaps(value) and all(spot % 2 == colour for spot, _ in value)
        if wanted:
            wanted = odd_field(value, lefts, low, high, ticks) == tuple(sorted(wish))
        self.assertIs(shows_start(*told, value), wanted, (told, value))

    def test_told(self):
        maker = random.Random(71)
        for _ in range(60):
            low, ticks, colour = maker.randrange(-30, 30), maker.randrange(11), maker.randrange(2)
            high = low + maker.randrange(81)
            all_places = places(colour, low, high, ticks)
            wish = maker.sample(all_places, maker.randrange(len(all_places) + 1))
            lefts = maker.sample(range(-50, 60), maker.randrange(60))
            heaps = start_for(lefts, wish, colour, low, high, ticks)
            self.assertIs(shows_start(lefts, wish, colour, low, high, ticks, heaps), True)
            turned = [list(heap) for heap in heaps[::-1]]
            self.assertIs(shows_start(lefts, wish[::-1], colour, low, high, ticks, value=turned), True)
            if all_places:
                other = sorted({all_places[0]} ^ set(wish))
                self.assertIs(shows_start(lefts, other, colour, low, high, ticks, heaps), False)

    def test_changed(self):
        for told in WISHES:
            heaps = start_for(*told)
            for value in changed(heaps):
                self.try_one(told, value)

    def test_drawn(self):
        maker = random.Random(72)
        for _ in range(60):
            heaps, lefts = some_start(maker, 5, 12)
            for colour in (0, 1):
                for ticks in (0, 1, 3):
                    field = odd_field(heaps, lefts, -2, 3, ticks)
                    wish = [(s, t) for s, t in field if (s + t) % 2 == colour]
                    self.try_one((lefts, wish, colour, -2, 3, ticks), heaps)
                    self.try_one((lefts, wish, colour, -2, 3, ticks), tuple(heaps[::-1]))

    def test_anywhere(self):
        told = WISHES[0]
        for more in ([(40, 1)], [(FAR, 7), (-FAR, GREAT)], [(6, 4)]):
            self.assertIs(shows_start(*told, [*more, (0, 1)]), True)
        # These come to a told spot within the ticks.
        self.assertIs(shows_start(*told, [(2, 1), (0, 1)]), False)
        self.assertIs(shows_start(*told, [(-2, 2), (0, 1)]), False)
        # 2 ** 10 chips part in halves at all ticks that can be told.
        self.assertIs(shows_start([0], [], 0, -40, 40, 10, [(0, 2 ** 10)]), True)
        self.assertIs(shows_start([0], [], 0, -40, 40, 10, [(0, 2 ** 9)]), False)

    def test_the_other_colour(self):
        self.assertIs(shows_start([], [], 0, 0, 0, 0, [(1, 1)]), False)
        self.assertIs(shows_start([], [], 1, 0, 0, 0, [(1, 1)]), True)
        self.assertIs(shows_start([], [], 1, 0, 0, 0, [(-1, 1), (1, 3)]), True)
        self.assertIs(shows_start([], [], 1, 0, 0, 0, [(1, 1), (0, 2)]), False)
        self.assertIs(shows_start([], [], 0, 0, 0, 0, []), True)
        self.assertIs(shows_start([], [], 0, 0, 0, 0, ()), True)

    def test_no_heaps(self):
        for told in WISHES:
            for value in [*NO_HEAPS, *MIXED, Paper("heaps", (0, 1)), object(), [(2 * k, 2) for k in range(61)]]:
                self.assertIs(shows_start(*told, value), False)
        self.assertIs(shows_start([], [], 0, 0, 0, 1, [(2 * k, 2) for k in range(60)]), True)

    def test_wrong_values(self):
        for value in NO_LEFTS:
            self.wrong(BadNumber("lefts"), shows_start, value, None, None, None, None, None, None)
        for value in NO_WISHES:
            self.wrong(BadNumber("wish"), shows_start, [], value, None, None, None, None, [])
        for value in [*NO_INTEGERS, -1, 2]:
            self.wrong(BadNumber("colour"), shows_start, [], [(9, 9)], value, None, None, None, [])
        for value in [*NO_INTEGERS, NEAR + 1, -NEAR - 1]:
            self.wrong(BadNumber("low"), shows_start, [], [(9, 9)], 1, value, None, None, [])
        for value in [*NO_INTEGERS, -1, 81]:
            self.wrong(BadNumber("high"), shows_start, [], [(9, 9)], 1, 0, value, None, [])
        for value in [*NO_INTEGERS, -1, 11]:
            self.wrong(BadNumber("ticks"), shows_start, [], [(9, 9)], 1, 0, 5, value, [])
        for value in ([], None, [(0, 1)]):
            self.wrong(Misfit("wish"), shows_start, [], [(0, 1), (6, 0)], 0, 0, 5, 4, value)
            self.wrong(Misfit("colour"), shows_start, [], [(0, 0), (0, 1)], 0, 0, 5, 4, value)
