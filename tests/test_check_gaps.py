"""Whether a Gap is right."""

import random
import time

from nodice.check_gaps import shows_gap
from nodice.errors import BadHeaps, BadLook, BadNumber, Misfit
from nodice.looks import Look, window
from nodice.told_gaps import Gap, told_gap
from tests.support import Case, changed_parts, no_papers, plain
from tests.test_heaps import GREAT, NO_HEAPS
from tests.test_lines import NO_LEFTS
from tests.test_looks import NO_LOOKS
from tests.test_told_gaps import ONE, drawn


class ShowsGap(Case):
    def test_told(self):
        maker = random.Random(51)
        for look, heaps, lefts in drawn(maker, 60):
            told = told_gap(look, heaps, lefts)
            self.assertIs(shows_gap(look, heaps, lefts, told), True)
            by_hand = Gap(list(told.gap), [list(chip) for chip in told.chips])
            self.assertIs(shows_gap(look=look, heaps=tuple(heaps), lefts=tuple(lefts), value=by_hand), True)

    def test_changed(self):
        for look, heaps, lefts in (
            (ONE, [(0, 3)], [0]), (ONE, [], []), (window(0, 1, 1), [(-1, 1), (1, 1)], [1]),
            (Look([(0, 3, 2)]), [(1, 5), (-1, 1)], [0, 1]),
        ):
            told = told_gap(look, heaps, lefts)
            for parts in changed_parts(told.parts):
                wanted = plain(parts) == plain(told.parts)
                self.assertIs(shows_gap(look, heaps, lefts, Gap(*parts)), wanted, parts)

    def test_of_another_start(self):
        told = told_gap(ONE, [(0, 3)], [0])
        self.assertIs(shows_gap(ONE, [(0, 3)], [], told), False)
        self.assertIs(shows_gap(ONE, [(0, 2)], [0], told), False)
        self.assertIs(shows_gap(window(0, 1, 2), [(0, 3)], [0], told), False)
        # Four chips more on each side are even heaps till the look's last tick.
        self.assertIs(shows_gap(ONE, [(0, 7)], [0], told), True)

    def test_no_papers(self):
        told = told_gap(ONE, [(0, 3)], [0])
        for value in no_papers(Gap, told.parts):
            self.assertIs(shows_gap(ONE, [(0, 3)], [0], value), False)

    def test_wrong_values(self):
        told = told_gap(ONE, [(0, 3)], [0])
        for value in NO_LOOKS:
            self.wrong(BadLook("look"), shows_gap, value, None, None, told)
        for value in NO_HEAPS:
            self.wrong(BadHeaps("heaps"), shows_gap, ONE, value, None, told)
        for value in NO_LEFTS:
            self.wrong(BadNumber("lefts"), shows_gap, ONE, [(1, 1)], value, told)
        for heaps in ([(1, 1)], [(0, 1), (1, 1)]):
            self.wrong(Misfit("colour"), shows_gap, ONE, heaps, [], told)
            self.wrong(Misfit("colour"), shows_gap, ONE, heaps, [], None)

    def test_short_time(self):
        begin = time.perf_counter()
        heaps = [(200 * spot, GREAT - spot) for spot in range(60)]
        look = Look([(200 * k, 60, 1000000 - k) for k in range(40)])
        self.assertIs(shows_gap(look, heaps, [], told_gap(look, heaps, [])), True)
        self.assertLess(time.perf_counter() - begin, 20)
