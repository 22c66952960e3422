"""Whether a Turns is right."""

from nodice.check_turns import shows_turns
from nodice.errors import BadNumber
from nodice.turns import Turns, greatest_turns
from tests.support import (
    NO_FRACTIONS, NO_LISTS, Case, changed_parts, no_papers, pair, plain, sums_by_turns,
)
from tests.test_turns import SHORT, all_lists


def right_ones(numbers):
    """All right parts, written."""
    choices = list(sums_by_turns(numbers))
    most = max(total for total, _, _ in choices)
    return {plain((pair(total), picks, sign)) for total, picks, sign in choices if total == most}


class ShowsTurns(Case):
    def try_one(self, numbers, right, parts):
        self.assertIs(shows_turns(numbers, Turns(*parts)), plain(parts) in right, (numbers, parts))

    def test_told(self):
        for numbers in all_lists():
            self.assertIs(shows_turns(numbers, greatest_turns(numbers)), True)
            self.assertIs(shows_turns(numbers=tuple(numbers), value=greatest_turns(numbers)), True)
        many = [(k * k - 37 * k, 1) for k in range(60)]
        self.assertIs(shows_turns(many, greatest_turns(many)), True)

    def test_all_choices(self):
        for numbers in all_lists():
            right = right_ones(numbers)
            for total, picks, sign in sums_by_turns(numbers):
                self.try_one(numbers, right, (pair(total), picks, sign))

    def test_changed(self):
        for numbers in SHORT:
            right = right_ones(numbers)
            for parts in changed_parts(greatest_turns(numbers).parts):
                self.try_one(numbers, right, parts)

    def test_none_picked(self):
        for numbers in ([], [(0, 1)], [(0, 1)] * 60):
            for sign in (1, -1):
                self.assertIs(shows_turns(numbers, Turns((0, 1), (), sign)), True)
            for sign in (0, 2, True, 1.0, None, (1,)):
                self.assertIs(shows_turns(numbers, Turns((0, 1), (), sign)), False)

    def test_picks_in_another_order(self):
        numbers = [(1, 1), (1, 1), (-1, 1)]
        for picks, wanted in (((0, 2), True), ((1, 2), True), ((2, 0), False), ((2, 1), False), ((0, 2, 2), False)):
            self.assertIs(shows_turns(numbers, Turns((2, 1), picks, 1)), wanted)
        # An index from the end would find a number, too.
        self.assertIs(shows_turns(numbers, Turns((2, 1), (0, -1), 1)), False)
        self.assertIs(shows_turns(numbers, Turns((2, 1), (-3, 2), 1)), False)
        self.assertIs(shows_turns(numbers, Turns((2, 1), (0, 3), 1)), False)

    def test_no_papers(self):
        for value in no_papers(Turns, ((1, 2), (0,), 1)):
            self.assertIs(shows_turns([(1, 2), (1, 4)], value), False)

    def test_wrong_numbers(self):
        for value in [*NO_LISTS, *[[value] for value in NO_FRACTIONS], [(0, 1)] * 61]:
            self.wrong(BadNumber("numbers"), shows_turns, value, Turns((0, 1), (), 1))
            self.wrong(BadNumber("numbers"), shows_turns, value, None)
