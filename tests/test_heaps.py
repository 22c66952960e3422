"""Heaps."""

from nodice.errors import BadHeaps, Misfit, TooMany
from nodice.heaps import chips_in, colour_of, joined_heaps
from tests.support import NO_INTEGERS, NO_LISTS, Case

FAR = 1000000
GREAT = 10 ** 60
NO_HEAPS = [
    *NO_LISTS,
    [1], [None], ["ab"], [[]], [(1,)], [(0, 1, 1)], [((0, 1), 1)], [(0, 1), 5], [(0, 1), None],
    [(0, 0)], [(0, -1)], [(0, GREAT + 1)], [(FAR + 1, 1)], [(-FAR - 1, 1)], [(0, 1), (0, 2)],
    [(0, 1), (2, 1), [0, 1]], [{0: 1, 2: 1}], [(2 * spot, 1) for spot in range(61)], {(0, 1): 1},
    *[[(value, 1)] for value in NO_INTEGERS], *[[(0, value)] for value in NO_INTEGERS],
    *[[(2, 1), (0, value)] for value in NO_INTEGERS],
]
MIXED = [[(0, 1), (1, 1)], ((3, 1), [-2, 1]), [(2 * spot, 1) for spot in range(59)] + [(-1, 1)]]


class Heaps(Case):
    def test_colours(self):
        for heaps, wanted in (
            ([], None), ((), None), ([(0, 1)], 0), ([(-1, 1)], 1), ([(FAR, 1), (-FAR, GREAT)], 0),
            (((FAR - 1, 1), [1 - FAR, GREAT]), 1), ([(2 * spot + 1, 1) for spot in range(60)], 1),
        ):
            self.same(colour_of(heaps), wanted)
            self.same(colour_of(heaps=tuple(heaps)), wanted)

    def test_chips(self):
        for heaps, wanted in (
            ([], 0), ([(4, 1), (-2, 7)], 8), ([(2 * spot, GREAT) for spot in range(60)], 60 * GREAT),
            (((7, 3),), 3),
        ):
            self.same(chips_in(heaps), wanted)
            self.same(chips_in(heaps=[list(heap) for heap in heaps]), wanted)

    def test_no_heaps(self):
        for value in NO_HEAPS:
            self.wrong(BadHeaps("heaps"), colour_of, value)
            self.wrong(BadHeaps("heaps"), chips_in, value)

    def test_unlike_colours(self):
        for heaps in MIXED:
            self.wrong(Misfit("colour"), colour_of, heaps)
            self.wrong(Misfit("colour"), chips_in, heaps)

    def test_no_heaps_ahead_of_colours(self):
        for heaps in ([(0, 1), (1, 0)], [(0, 1), (1, 1), (0, 1)], [(0, 1), (FAR + 1, 1)]):
            self.wrong(BadHeaps("heaps"), colour_of, heaps)
            self.wrong(BadHeaps("heaps"), chips_in, heaps)


class JoinedHeaps(Case):
    def test_joined(self):
        for one, other, wanted in (
            ([], [], ()), ([(2, 3), (0, 1)], [], ((0, 1), (2, 3))), ([], [[5, 1]], ((5, 1),)),
            ([(2, 3), (0, 1)], ((2, 1), [-4, 9]), ((-4, 9), (0, 1), (2, 4))),
            ([(0, GREAT - 1)], [(0, 1)], ((0, GREAT),)),
        ):
            self.same(joined_heaps(one, other), wanted)
            self.same(joined_heaps(other=one, one=other), wanted)

    def test_no_heaps(self):
        for value in NO_HEAPS:
            self.wrong(BadHeaps("one"), joined_heaps, value, [(0, 1)])
            self.wrong(BadHeaps("other"), joined_heaps, [(0, 1)], value)
            self.wrong(BadHeaps("one"), joined_heaps, value, value)
        for heaps in MIXED:
            self.wrong(BadHeaps("other"), joined_heaps, heaps, None)
            self.wrong(BadHeaps("one"), joined_heaps, None, heaps)

    def test_unlike_colours(self):
        self.wrong(Misfit("colour"), joined_heaps, [(0, 1)], [(1, 1)])
        for heaps in MIXED:
            self.wrong(Misfit("colour"), joined_heaps, heaps, [])
            self.wrong(Misfit("colour"), joined_heaps, [], heaps)

    def test_too_many(self):
        some = [(2 * spot, 1) for spot in range(60)]
        self.assertEqual(len(joined_heaps(some, some)), 60)
        self.assertEqual(len(joined_heaps(some[:30], some[30:])), 60)
        self.wrong(TooMany("heaps", 60), joined_heaps, some, [(-2, 1)])
        self.wrong(TooMany("heaps", 60), joined_heaps, [(120, 1)], some)
        self.wrong(TooMany("chips", GREAT), joined_heaps, [(0, GREAT)], [(0, 1)])
        self.wrong(TooMany("chips", GREAT), joined_heaps, [(4, 1), (0, 2)], [(2, 1), (0, GREAT - 1)])

    def test_several_at_once(self):
        some = [(2 * spot, GREAT) for spot in range(60)]
        self.wrong(TooMany("heaps", 60), joined_heaps, some, [(0, 1), (-2, 1)])
        self.wrong(Misfit("colour"), joined_heaps, some, [(1, 1)])
        self.wrong(TooMany("chips", GREAT), joined_heaps, some, [(0, 1)])

    def test_what_was_passed_stays(self):
        one, other = [[0, 1]], [[0, 2]]
        joined = joined_heaps(one, other)
        self.assertEqual((one, other), ([[0, 1]], [[0, 2]]))
        one[0][1] = 7
        self.same(joined, ((0, 3),))
