"""Signs by turns."""

import random
import time
from fractions import Fraction

from nodice.errors import BadNumber
from nodice.papers import Paper
from nodice.turns import Turns, greatest_turns, turns_from
from tests.support import NO_FRACTIONS, NO_INTEGERS, NO_LISTS, Case, pair, plain, sums_by_turns

GREAT = 10 ** 60
SHORT = [
    [], [(0, 1)], [(0, 1)] * 5, [(1, 1)], [(-1, 1)], [(1, 2), (1, 4)], [(1, 2), (-1, 4)], [(-3, 1), (1, 1), (-2, 1)],
    [(1, 1), (5, 1), (2, 1), (4, 1), (0, 1)], [(0, 1), (-1, 3), (0, 1), (0, 1), (-1, 3)], [(1, 8), (0, 1), (2, 1)],
    [(2, 1)] * 6, [(-2, 7)] * 4, [(1, 3), (1, 2), (1, 5)], [(GREAT, 7), (-GREAT, 1), (1, GREAT), (-1, GREAT + 1)],
]


def some_numbers(maker, many):
    ups, downs = maker.choice([([-2, 3], 1), ([0, 4], 3), ([-4, 0], 2), ([-9, 9], 5), ([-GREAT, GREAT], GREAT)])
    return [pair(Fraction(maker.randint(*ups), maker.randint(1, downs))) for _ in range(many)]


def all_lists():
    maker = random.Random(21)
    return SHORT + [some_numbers(maker, many) for many in range(7) for _ in range(12)]


def from_the_front(numbers):
    """The greatest sum by turns, as the fact in [8] tells it."""
    kept = turned = Fraction(0)
    for number in numbers:
        value = Fraction(*number)
        kept, turned = max(kept, turned + value), max(turned, kept - value)
    return max(kept, turned)


class GreatestTurns(Case):
    def test_against_all_choices(self):
        for numbers in all_lists():
            told = greatest_turns(numbers)
            choices = list(sums_by_turns(numbers))
            most = max(total for total, _, _ in choices)
            self.same(told.total, pair(most))
            right = {plain((pair(total), picks, sign)) for total, picks, sign in choices if total == most}
            self.assertIn(plain(told.parts), right)
            if not told.picks:
                self.same(told.parts, ((0, 1), (), 1))

    def test_ends_in_the_greatest_number(self):
        maker = random.Random(22)
        for many in (10, 30, 59, 60):
            for _ in range(20):
                numbers = some_numbers(maker, many)
                told = greatest_turns(numbers)
                self.same(told.total, pair(from_the_front(numbers)))
                signs = [told.sign * (-1) ** place for place in range(len(told.picks))]
                total = sum(sign * Fraction(*numbers[pick]) for sign, pick in zip(signs, told.picks))
                self.same(told.total, pair(total))
                self.assertEqual(sorted(set(told.picks)), list(told.picks))

    def test_of_one_sign_that_rise_and_fall(self):
        maker = random.Random(23)
        for _ in range(40):
            rise = sorted(maker.randrange(50) for _ in range(maker.randrange(1, 8)))
            fall = sorted((maker.randrange(50) for _ in range(maker.randrange(8))), reverse=True)
            sign = maker.choice([1, -1])
            self.same(greatest_turns([(sign * n, 1) for n in rise + fall]).total, (max(rise + fall), 1))

    def test_none_is_chosen(self):
        for numbers in ([], (), [(0, 1)], [[0, 1]] * 60):
            self.same(greatest_turns(numbers).parts, ((0, 1), (), 1))

    def test_paper(self):
        told = greatest_turns(numbers=[[1, 2], (-1, 4)])
        self.same((told.word, told.total, told.picks, told.sign), ("turns", (3, 4), (0, 1), 1))
        self.assertIs(bool(told), True)
        self.assertIs(told.__class__, Turns)
        self.assertEqual(Turns.__bases__, (Paper,))
        self.assertIs(told == Turns([3, 4], [0, 1], 1), True)
        self.assertIs(told == Turns(total=(3, 4), sign=1, picks=(0, 1)), True)
        for other in (
            Turns((3, 4), (0, 1), -1), Turns((3, 4), (0,), 1), Turns((3, 5), (0, 1), 1), told.parts, None,
            Paper("turns", (3, 4), (0, 1), 1),
        ):
            self.assertIs(told == other, False)
        odd = Turns([[1], None], {"a": [1]}, "x")
        self.same((odd.total, odd.picks, odd.sign), (((1,), None), {"a": [1]}, "x"))
        self.same(odd.parts, (((1,), None), {"a": [1]}, "x"))

    def test_again(self):
        for numbers in all_lists():
            others = tuple([list(number) for number in numbers])
            self.assertIs(greatest_turns(numbers) == greatest_turns(others), True)
            self.same(turns_from(numbers, 1), turns_from(others, 1))

    def test_what_was_passed_stays(self):
        numbers = [[1, 2], [-1, 4]]
        greatest_turns(numbers)
        turns_from(numbers, -1)
        self.assertEqual(numbers, [[1, 2], [-1, 4]])


class TurnsFrom(Case):
    def test_against_all_choices(self):
        for numbers in all_lists():
            for wanted in (1, -1):
                totals = [total for total, _, sign in sums_by_turns(numbers) if sign == wanted]
                self.same(turns_from(numbers, wanted), (pair(min(totals)), pair(max(totals))))

    def test_both_signs(self):
        maker = random.Random(24)
        for _ in range(20):
            numbers = some_numbers(maker, 60)
            kept, turned = turns_from(numbers, 1), turns_from(numbers=numbers, sign=-1)
            self.same(kept[0], (-turned[1][0], turned[1][1]))
            self.same(turned[0], (-kept[1][0], kept[1][1]))
            self.same(greatest_turns(numbers).total, max([kept[1], turned[1]], key=lambda told: Fraction(*told)))

    def test_edges(self):
        for sign in (1, -1):
            self.same(turns_from([], sign), ((0, 1), (0, 1)))
            self.same(turns_from([(0, 1)] * 60, sign), ((0, 1), (0, 1)))
        self.same(turns_from([(5, 1)], 1), ((0, 1), (5, 1)))
        self.same(turns_from([(5, 1)], -1), ((-5, 1), (0, 1)))
        # A number that is 0 turns the sign of the later ones.
        self.same(turns_from([(0, 1), (5, 1)], 1), ((-5, 1), (5, 1)))


class Wrong(Case):
    def test_wrong_numbers(self):
        wrong = [*NO_LISTS, *[[value] for value in NO_FRACTIONS], *[[(1, 2), value] for value in NO_FRACTIONS]]
        for value in [*wrong, [(1, 2)] * 61, ((0, 1),) * 61, (1, 2), [1, 2], {(1, 2)}, {(1, 2): 1}]:
            self.wrong(BadNumber("numbers"), greatest_turns, value)
            self.wrong(BadNumber("numbers"), turns_from, value, 1)
            self.wrong(BadNumber("numbers"), turns_from, value, 0)
        self.same(greatest_turns([(1, 2)] * 60).total, (1, 2))

    def test_wrong_signs(self):
        for value in [*NO_INTEGERS, 0, 2, -2, 1.0, -1.0, 10 ** 70]:
            self.wrong(BadNumber("sign"), turns_from, [(1, 2)], value)
            self.wrong(BadNumber("sign"), turns_from, [], value)

    def test_short_time(self):
        begin = time.perf_counter()
        maker = random.Random(25)
        numbers = [pair(Fraction(maker.randint(-10 ** 200, 10 ** 200), 10 ** 200 + 2 * k + 1)) for k in range(60)]
        for sign in (1, -1):
            greatest_turns(numbers)
            turns_from(numbers, sign)
        self.assertLess(time.perf_counter() - begin, 20)
