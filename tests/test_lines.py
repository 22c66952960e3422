"""The line: starts, ticks, hands."""

import random
import time

from nodice.errors import BadHeaps, BadLine, BadNumber, Misfit
from nodice.lines import Line, hand_at, moved_line, sendings
from tests.support import NO_INTEGERS, NO_LISTS, Case, played
from tests.test_heaps import FAR, GREAT, MIXED, NO_HEAPS

NO_LEFTS = [
    *NO_LISTS, *[[value] for value in NO_INTEGERS], *[[3, value] for value in NO_INTEGERS],
    [1, 1], (0, 5, 0), [FAR + 1], [-FAR - 1], [0, FAR + 1], list(range(401)), {1, 2}, {1: 2},
]
NO_LINES = [None, True, 0, "0 / /", [], ([], []), (0, (), ()), {}, Line]


def some_start(maker, most_heaps, most_chips):
    colour = maker.randrange(2)
    spots = maker.sample([2 * place + colour for place in range(-5, 6)], maker.randrange(most_heaps + 1))
    heaps = [(spot, maker.randrange(1, most_chips + 1)) for spot in spots]
    return heaps, maker.sample(range(-12, 13), maker.randrange(20))


class Starts(Case):
    def test_attributes(self):
        line = Line([(4, 1), [-2, 7]], [3, -5, 0])
        self.same((line.tick, line.heaps, line.lefts), (0, ((-2, 7), (4, 1)), (-5, 0, 3)))
        line = Line(heaps=(), lefts=())
        self.same((line.tick, line.heaps, line.lefts), (0, (), ()))

    def test_any_order_and_kind(self):
        wanted = Line([(0, 1), (2, 3), (-4, 5)], [1, 2, 3])
        for heaps in (([-4, 5], (0, 1), [2, 3]), [(2, 3), [0, 1], (-4, 5)]):
            for lefts in ((3, 1, 2), [2, 3, 1]):
                self.assertIs(Line(heaps, lefts) == wanted, True)

    def test_bounds(self):
        line = Line([(FAR, GREAT), (-FAR, 1)], [FAR, -FAR])
        self.same(line.heaps, ((-FAR, 1), (FAR, GREAT)))
        self.same(line.lefts, (-FAR, FAR))
        self.assertEqual(len(Line([(2 * spot, 1) for spot in range(60)], []).heaps), 60)
        self.assertEqual(Line([], list(range(399, -1, -1))).lefts, tuple(range(400)))
        self.wrong(BadNumber("lefts"), Line, [], list(range(401)))
        self.wrong(BadHeaps("heaps"), Line, [(2 * spot, 1) for spot in range(61)], [])

    def test_wrong_values(self):
        for value in NO_HEAPS:
            self.wrong(BadHeaps("heaps"), Line, value, [])
            self.wrong(BadHeaps("heaps"), Line, value, None)
        for value in NO_LEFTS:
            self.wrong(BadNumber("lefts"), Line, [(0, 1)], value)
        for heaps in MIXED:
            self.wrong(Misfit("colour"), Line, heaps, [])
            self.wrong(BadNumber("lefts"), Line, heaps, [1, 1])

    def test_what_was_passed_changes(self):
        heap, lefts = [0, 3], [1]
        heaps = [heap]
        line = Line(heaps, lefts)
        heap[1] = 9
        heaps.append([2, 2])
        lefts.append(2)
        self.same((line.heaps, line.lefts), (((0, 3),), (1,)))
        line.forward(5)
        self.assertEqual((heaps, lefts), ([[0, 9], [2, 2]], [1, 2]))


class Ticks(Case):
    def test_chip_by_chip(self):
        maker = random.Random(4)
        for _ in range(150):
            heaps, lefts = some_start(maker, 5, 40)
            line, leap = Line(heaps, lefts), Line(heaps, lefts)
            for ticks in range(12):
                chips, hands = played(heaps, lefts, ticks)
                self.same(line.heaps, tuple(sorted(chips.items())))
                self.same(line.lefts, tuple(hands))
                self.assertEqual(line.tick, ticks)
                self.assertEqual(line.advance(), ticks + 1)
            self.assertEqual(leap.forward(12), 12)
            self.assertEqual(leap, line)

    def test_many_at_once(self):
        one, other = Line([(0, GREAT), (4, 7)], [0, 2]), Line([(0, GREAT), (4, 7)], [0, 2])
        self.assertEqual(one.forward(0), 0)
        self.assertEqual(one, other)
        self.assertEqual(one.forward(200), 200)
        for _ in range(200):
            other.advance()
        self.assertEqual(one, other)
        self.assertEqual(sum(many for _, many in one.heaps), GREAT + 7)
        self.assertEqual(one.forward(many=200), 400)

    def test_wrong_many_changes_nothing(self):
        line = Line([(0, 3)], [0])
        line.forward(3)
        before = line.copy()
        for value in [*NO_INTEGERS, -1, 201, 10 ** 9]:
            self.wrong(BadNumber("many"), line.forward, value)
            self.assertEqual(line, before)

    def test_colour_stays(self):
        line = Line([(1, 1000), (5, 1)], [1, 5])
        for _ in range(20):
            self.assertEqual({(spot + line.tick) % 2 for spot, _ in line.heaps}, {1})
            line.advance()

    def test_hands(self):
        line = Line([(0, 3), (4, 2)], [0, 4, 8])
        line.advance()
        # Three chips turn the hand, two do not, and without chips it stays.
        self.same(line.lefts, (4, 8))
        line = Line([(0, 1)], [])
        line.advance()
        self.same((line.heaps, line.lefts), (((1, 1),), (0,)))

    def test_short_time(self):
        begin = time.perf_counter()
        heaps = [(1000 * spot, GREAT - 2 * spot) for spot in range(60)]
        line = Line(heaps, list(range(0, 4000, 10)))
        line.forward(200)
        self.assertEqual(sum(many for _, many in line.heaps), sum(many for _, many in heaps))
        self.assertEqual(sum(line.heap_at(spot) for spot, _ in line.heaps), sum(many for _, many in heaps))
        self.assertEqual(len(sendings(line)), len(line.heaps))
        self.assertEqual(Line.read(str(line)), line)
        line = Line(heaps, [])
        for _ in range(200):
            line.advance()
        self.assertLess(time.perf_counter() - begin, 30)


class PowersOfTwo(Case):
    """Of [10]: 2 ** tick chips more on the spot tick to the right of y."""

    def test_one_more_at_the_tick(self):
        maker = random.Random(10)
        for _ in range(60):
            heaps, lefts = some_start(maker, 5, 30)
            parity = heaps[0][0] % 2 if heaps else 0
            for tick in range(7):
                y = 2 * maker.randrange(-4, 5) + (parity + tick) % 2
                more = dict(heaps)
                more[y + tick] = more.get(y + tick, 0) + 2 ** tick
                plain, fuller = Line(heaps, lefts), Line(list(more.items()), lefts)
                for _ in range(tick):
                    self.assertEqual(
                        [spot for spot, many in plain.heaps if many % 2],
                        [spot for spot, many in fuller.heaps if many % 2],
                    )
                    plain.advance()
                    fuller.advance()
                    self.assertEqual(plain.lefts, fuller.lefts)
                choices = 1
                for number in range(tick + 1):
                    spot = y + 2 * number
                    self.assertEqual(fuller.heap_at(spot) - plain.heap_at(spot), choices)
                    choices = choices * (tick - number) // (number + 1)
                self.assertEqual(fuller.heap_at(y - 2), plain.heap_at(y - 2))
                self.assertEqual(fuller.heap_at(y + 2 * tick + 2), plain.heap_at(y + 2 * tick + 2))


class Questions(Case):
    def test_heap_at(self):
        line = Line([(-4, 5), (0, 3), (6, GREAT)], [])
        for spot in range(-8, 10):
            self.assertEqual(line.heap_at(spot), {-4: 5, 0: 3, 6: GREAT}.get(spot, 0))
        self.assertEqual(line.heap_at(spot=10 ** 99), 0)
        self.assertEqual(line.heap_at(-(10 ** 99)), 0)
        self.assertEqual(Line([], []).heap_at(0), 0)
        for value in NO_INTEGERS:
            self.wrong(BadNumber("spot"), line.heap_at, value)

    def test_hand_at(self):
        line = Line([(0, 3)], [-3, 0, 8, 9])
        for spot in range(-6, 12):
            self.assertEqual(hand_at(line, spot), -1 if spot in (-3, 0, 8, 9) else 1)
        line.advance()
        self.assertEqual(hand_at(line=line, spot=0), 1)
        self.assertEqual(hand_at(line, 10 ** 99), 1)
        for value in NO_INTEGERS:
            self.wrong(BadNumber("spot"), hand_at, line, value)

    def test_sendings(self):
        line = Line([(6, 1), (0, 3), (2, 4), (4, 1), (8, 5)], [0, 2, 4])
        self.same(sendings(line), ((0, 2, 1), (2, 2, 2), (4, 1, 0), (6, 0, 1), (8, 2, 3)))
        self.same(sendings(line=Line([], [1])), ())

    def test_sendings_come(self):
        maker = random.Random(6)
        for _ in range(40):
            line = Line(*some_start(maker, 6, 30))
            for _ in range(6):
                came = {}
                for spot, left, right in sendings(line):
                    self.assertEqual(left + right, line.heap_at(spot))
                    came[spot - 1] = came.get(spot - 1, 0) + left
                    came[spot + 1] = came.get(spot + 1, 0) + right
                line.advance()
                self.same(line.heaps, tuple(sorted((spot, many) for spot, many in came.items() if many)))

    def test_no_line(self):
        for value in NO_LINES:
            self.wrong(BadLine("line"), hand_at, value, 0)
            self.wrong(BadLine("line"), hand_at, value, None)
            self.wrong(BadLine("line"), sendings, value)
            self.wrong(BadLine("line"), moved_line, value, 0)
            self.wrong(BadLine("line"), moved_line, value, None)


class Copies(Case):
    def test_copy(self):
        line = Line([(0, 5)], [1])
        line.forward(3)
        other = line.copy()
        self.assertIs(other == line, True)
        other.advance()
        self.assertEqual((line.tick, other.tick), (3, 4))
        self.assertIs(other == line, False)
        line.advance()
        self.assertIs(other == line, True)

    def test_moved(self):
        for by in (0, 1, -7, 1000000, -(10 ** 30)):
            line = Line([(0, 5), (4, 2)], [1, -3])
            line.forward(3)
            before = line.copy()
            other = moved_line(line, by)
            self.assertEqual(line, before)
            self.assertEqual(other.tick, 3)
            self.same(other.heaps, tuple((spot + by, many) for spot, many in line.heaps))
            self.same(other.lefts, tuple(spot + by for spot in line.lefts))
            line.forward(4)
            other.forward(4)
            self.assertEqual(moved_line(line=line, by=by), other)
        for value in NO_INTEGERS:
            self.wrong(BadNumber("by"), moved_line, line, value)

    def test_equality(self):
        line = Line([(0, 3)], [1])
        self.assertIs(line == Line([(0, 3)], [1]), True)
        self.assertIs(line != Line([(0, 3)], [1]), False)
        for other in (
            Line([(0, 2)], [1]), Line([(2, 3)], [1]), Line([(0, 3)], [0]), Line([(0, 3)], []),
            Line([], [1]), Line.read("1 / 0 3 / 1"), None, "0 / 0 3 / 1", (0, ((0, 3),), (1,)), True, 0,
        ):
            self.assertIs(line == other, False)
            self.assertIs(line != other, True)
