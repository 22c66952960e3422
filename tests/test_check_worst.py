"""Whether a Worst is right."""

import random
from fractions import Fraction

from nodice.check_worst import shows_worst
from nodice.errors import BadLook
from nodice.looks import Look, window
from nodice.worst import Worst, worst_by, worst_start
from nodice.worths_of_looks import look_gap
from nodice.reaches import reach_by, reach_of
from tests.support import Case, changed_parts, no_papers, pair, played, split_means
from tests.test_check_wishes import are_small_heaps
from tests.test_heaps import FAR, GREAT, MIXED, NO_HEAPS
from tests.test_lines import NO_LEFTS, some_start
from tests.test_looks import NO_LOOKS
from tests.test_worst import GREATEST, STILL, some_looks

ONE = window(0, 1, 1)


def are_small_lefts(value):
    if not isinstance(value, (list, tuple)) or not all(spot.__class__ is int for spot in value):
        return False
    return len(set(value)) == len(value)


def is_worst(look, heaps, lefts):
    """Chip by chip."""
    if not are_small_heaps(heaps) or not are_small_lefts(lefts):
        return False
    if any(spot % 2 != look.colour for spot, _ in heaps):
        return False
    gap = Fraction(0)
    for spot, tick, weight in look.rows:
        chips, _ = played(heaps, lefts, tick)
        gap += weight * (chips.get(spot, 0) - split_means(heaps, tick).get(spot, 0))
    return pair(gap) == reach_of(look)


class ShowsWorst(Case):
    def test_told(self):
        for look in [*some_looks(), *GREATEST, STILL]:
            told = worst_start(look)
            self.assertIs(shows_worst(look, told), True)
            by_hand = Worst([list(heap) for heap in told.heaps[::-1]], list(told.lefts[::-1]))
            self.assertIs(shows_worst(look=look, value=by_hand), True)
            for lefts in ([], [0, 1, 3]):
                own = worst_by(look, lefts)
                self.assertIs(shows_worst(look, own), reach_by(look, lefts)[1] == reach_of(look))

    def test_changed(self):
        for look in (ONE, window(1, 1, 2), window(0, 1, 0), Look([(0, 2, 1), (2, 2, -1)]), Look([(0, 1, -5), (2, 1, 1)])):
            told = worst_start(look)
            for parts in changed_parts(told.parts):
                self.assertIs(shows_worst(look, Worst(*parts)), is_worst(look, *parts), (look.rows, parts))

    def test_drawn(self):
        maker = random.Random(91)
        for _ in range(200):
            heaps, lefts = some_start(maker, 5, 6)
            for look in (ONE, window(0, 1, 0), window(1, 1, 1), window(-1, 2, 1)):
                self.assertIs(shows_worst(look, Worst(heaps, lefts)), is_worst(look, heaps, lefts))

    def test_of_whatever_sizes(self):
        for heaps, lefts in (
            ([(-1, GREAT - 1), (1, GREAT - 1)], [1]), ([(-1, 1), (1, 1), (FAR - 1, GREAT)], [1, FAR, -FAR]),
            ([(2 * k - 1, 1) for k in range(60)], list(range(1, 401))),
        ):
            self.assertIs(shows_worst(ONE, Worst(heaps, lefts)), True)
        self.assertIs(shows_worst(ONE, Worst([(2 * k - 1, 1) for k in range(61)], [1])), False)
        self.assertIs(shows_worst(ONE, Worst([(-1, 1), (1, 1)], list(range(1, 402)))), False)
        self.assertIs(shows_worst(ONE, Worst([(-1, 1), (1, GREAT + 1)], [1])), False)
        self.assertIs(shows_worst(ONE, Worst([(-1, 1), (1, 1), (FAR + 1, 1)], [1])), False)
        self.assertIs(shows_worst(ONE, Worst([(-1, 1), (1, 1)], [1, FAR + 1])), False)

    def test_of_looks_without_a_told_start(self):
        # Too wide or too far out for worst_start: what is passed is looked at all the same.
        late = window(0, 1, 60)
        self.assertIs(shows_worst(late, Worst([], [])), False)
        self.assertIs(shows_worst(late, Worst([(0, 5)], [0])), False)
        outer = Look([(FAR, 1, 1)])
        self.assertIs(shows_worst(outer, Worst([(FAR - 1, 1)], [])), False)
        wide = Look([(-FAR + 1, 1, 1), (FAR - 1, 1, 1)])
        heaps = [(spot + beside, 1) for spot in (-FAR + 1, FAR - 1) for beside in (-1, 1)]
        self.assertIs(shows_worst(wide, Worst(heaps, [-FAR + 2, FAR])), True)
        self.assertIs(shows_worst(wide, Worst(heaps, [-FAR + 2])), False)
        self.same(look_gap(wide, heaps, [-FAR + 2, FAR]), (2, 1))

    def test_the_reach_is_nothing(self):
        for heaps in ([], [(0, 1)], [(2, 5), (-4, GREAT)]):
            self.assertIs(shows_worst(window(0, 2, 0), Worst(heaps, [7])), True)
        self.assertIs(shows_worst(window(0, 2, 0), Worst([(1, 1)], [])), False)

    def test_the_other_colour(self):
        for heaps in ([(0, 2)], [(0, 1), (-1, 1), (1, 1)], [(-1, 1), (1, 1), (0, 2)]):
            self.assertIs(shows_worst(ONE, Worst(heaps, [1])), False)

    def test_no_heaps(self):
        for value in [*NO_HEAPS, *MIXED]:
            self.assertIs(shows_worst(ONE, Worst(value, [1])), False)
            self.assertIs(shows_worst(window(0, 1, 0), Worst(value, [1])), False)
        for value in NO_LEFTS:
            self.assertIs(shows_worst(ONE, Worst([(-1, 1), (1, 1)], value)), False)

    def test_no_papers(self):
        for value in no_papers(Worst, (((-1, 1), (1, 1)), (1,))):
            self.assertIs(shows_worst(ONE, value), False)

    def test_wrong_looks(self):
        for value in NO_LOOKS:
            self.wrong(BadLook("look"), shows_worst, value, Worst([], []))
            self.wrong(BadLook("look"), shows_worst, value, None)
