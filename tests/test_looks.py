"""Looks."""

from nodice.errors import BadLook, BadNumber, Misfit, TooMany
from nodice.looks import Look, joined_looks, moved_look, scaled_look, visits, window
from tests.support import NO_INTEGERS, NO_LISTS, Case

FAR = 1000000
NO_LOOKS = [None, True, 0, "0 0 1", [], [(0, 0, 1)], ((0, 0, 1),), {}, Look]
NO_ROWS = [
    *NO_LISTS, [], (),
    [1], [None], [[]], [(0, 0)], [(0, 0, 1, 1)], ["abc"], [(0, 0, 1), None],
    [(FAR + 1, 0, 1)], [(-FAR - 1, 0, 1)], [(0, -1, 1)], [(0, 61, 1)], [(0, 0, 0)], [(0, 0, FAR + 1)],
    [(0, 0, -FAR - 1)], [(0, 0, 1), (0, 0, 1)], [(0, 2, 1), (2, 2, 1), [0, 2, 5]],
    [(2 * spot, 0, 1) for spot in range(41)], {(0, 0, 1)}, {(0, 0, 1): 1},
    *[[(value, 0, 1)] for value in NO_INTEGERS], *[[(0, value, 1)] for value in NO_INTEGERS],
    *[[(0, 0, value)] for value in NO_INTEGERS],
]


class Looks(Case):
    def test_attributes(self):
        look = Look([(2, 4, -1), [0, 4, 1], (1, 1, 3), (-5, 7, 2)])
        self.same(look.rows, ((1, 1, 3), (0, 4, 1), (2, 4, -1), (-5, 7, 2)))
        self.same((look.last, look.colour), (7, 0))
        look = Look(rows=((-1, 0, 5),))
        self.same((look.rows, look.last, look.colour), (((-1, 0, 5),), 0, 1))
        self.same(Look([(0, 3, 1)]).colour, 1)
        self.same(Look([(3, 3, 1)]).colour, 0)

    def test_any_order_and_kind(self):
        wanted = Look([(0, 2, 1), (2, 2, 5), (1, 3, -1)])
        for rows in (((1, 3, -1), [2, 2, 5], (0, 2, 1)), [[2, 2, 5], [0, 2, 1], [1, 3, -1]]):
            self.assertIs(Look(rows) == wanted, True)
            self.same(Look(rows).rows, wanted.rows)

    def test_bounds(self):
        look = Look([(FAR, 60, FAR), (-FAR, 60, -FAR), (-FAR, 0, 1)])
        self.same(look.rows, ((-FAR, 0, 1), (-FAR, 60, -FAR), (FAR, 60, FAR)))
        self.assertEqual(len(Look([(2 * spot, 0, 1) for spot in range(40)]).rows), 40)

    def test_wrong_rows(self):
        for value in NO_ROWS:
            self.wrong(BadLook("rows"), Look, value)

    def test_unlike_colours(self):
        self.wrong(Misfit("colour"), Look, [(0, 1, 1), (0, 2, 1)])
        self.wrong(Misfit("colour"), Look, [(0, 1, 1), (2, 1, 1), (1, 1, 1)])
        self.wrong(BadLook("rows"), Look, [(0, 1, 1), (0, 2, 0)])
        self.wrong(BadLook("rows"), Look, [(0, 1, 1), (0, 2, 1), (0, 2, 1)])

    def test_equality(self):
        look = Look([(0, 2, 1), (2, 2, 5)])
        self.assertIs(look == Look([(2, 2, 5), (0, 2, 1)]), True)
        self.assertIs(look != Look([(2, 2, 5), (0, 2, 1)]), False)
        for other in (
            Look([(0, 2, 1)]), Look([(0, 2, 1), (2, 2, 4)]), Look([(0, 2, 1), (4, 2, 5)]),
            Look([(0, 4, 1), (2, 4, 5)]), *NO_LOOKS, str(look), look.rows,
        ):
            self.assertIs(look == other, False)
            self.assertIs(look != other, True)

    def test_what_was_passed_changes(self):
        row = [0, 2, 1]
        rows = [row]
        look = Look(rows)
        row[2] = 7
        rows.append([2, 2, 2])
        self.same((look.rows, look.last, str(look)), (((0, 2, 1),), 2, "0 2 1"))


class Made(Case):
    def test_window(self):
        self.same(window(3, 1, 0).rows, ((3, 0, 1),))
        self.same(window(first=-1, many=3, tick=5).rows, ((-1, 5, 1), (1, 5, 1), (3, 5, 1)))
        self.same(window(999900, 40, 60).rows, tuple((999900 + 2 * k, 60, 1) for k in range(40)))
        self.same(window(-999900, 1, 60).rows, ((-999900, 60, 1),))

    def test_wrong_window(self):
        for value in [*NO_INTEGERS, 999901, -999901]:
            self.wrong(BadNumber("first"), window, value, 1, 0)
            self.wrong(BadNumber("first"), window, value, None, None)
        for value in [*NO_INTEGERS, 0, -1, 41]:
            self.wrong(BadNumber("many"), window, 0, value, 0)
            self.wrong(BadNumber("many"), window, 0, value, None)
        for value in [*NO_INTEGERS, -1, 61]:
            self.wrong(BadNumber("tick"), window, 0, 1, value)

    def test_visits(self):
        self.same(visits(2, 0).rows, ((2, 0, 1),))
        self.same(visits(2, 1).rows, ((2, 1, 1),))
        self.same(visits(spot=-7, tick=4).rows, ((-7, 0, 1), (-7, 2, 1), (-7, 4, 1)))
        self.same(visits(FAR, 60).rows, tuple((FAR, 2 * k, 1) for k in range(31)))
        self.same(visits(-FAR, 59).rows, tuple((-FAR, 2 * k + 1, 1) for k in range(30)))

    def test_wrong_visits(self):
        for value in [*NO_INTEGERS, FAR + 1, -FAR - 1]:
            self.wrong(BadNumber("spot"), visits, value, 0)
            self.wrong(BadNumber("spot"), visits, value, None)
        for value in [*NO_INTEGERS, -1, 61]:
            self.wrong(BadNumber("tick"), visits, 0, value)


class Joined(Case):
    def test_joined(self):
        one, other = Look([(0, 2, 1), (2, 2, 5)]), Look([(0, 2, -1), (2, 2, 1), (1, 1, 4)])
        self.same(joined_looks(one, other).rows, ((1, 1, 4), (2, 2, 6)))
        self.same(joined_looks(one=other, other=one).rows, ((1, 1, 4), (2, 2, 6)))
        self.same(one.rows, ((0, 2, 1), (2, 2, 5)))
        self.assertEqual(joined_looks(one, one), scaled_look(one, 2))

    def test_wrong_looks(self):
        look = window(0, 1, 0)
        for value in NO_LOOKS:
            self.wrong(BadLook("one"), joined_looks, value, look)
            self.wrong(BadLook("other"), joined_looks, look, value)
            self.wrong(BadLook("one"), joined_looks, value, value)

    def test_misfits(self):
        self.wrong(Misfit("colour"), joined_looks, window(0, 1, 0), window(1, 1, 0))
        self.wrong(Misfit("colour"), joined_looks, window(0, 40, 0), window(0, 40, 1))
        look = Look([(0, 2, 1), (1, 3, -5)])
        self.wrong(Misfit("rows"), joined_looks, look, scaled_look(look, -1))

    def test_too_many(self):
        self.assertEqual(len(joined_looks(window(0, 20, 0), window(40, 20, 0)).rows), 40)
        self.assertEqual(len(joined_looks(window(0, 40, 0), window(0, 40, 0)).rows), 40)
        self.wrong(TooMany("rows", 40), joined_looks, window(0, 40, 0), window(80, 1, 0))
        # Rows that come to 0 are left out ahead of counting.
        fewer = joined_looks(window(0, 40, 0), Look([(0, 0, -1), (80, 0, 1)]))
        self.assertEqual(len(fewer.rows), 40)
        great = Look([(0, 0, FAR)])
        self.same(joined_looks(Look([(0, 0, FAR - 1)]), window(0, 1, 0)).rows, ((0, 0, FAR),))
        self.wrong(TooMany("weight", FAR), joined_looks, great, window(0, 1, 0))
        self.wrong(TooMany("weight", FAR), joined_looks, Look([(0, 0, -FAR)]), Look([(0, 0, -1)]))
        forty = Look([(2 * k, 0, FAR) for k in range(40)])
        self.wrong(TooMany("rows", 40), joined_looks, forty, Look([(0, 0, 1), (80, 0, 1)]))


class Scaled(Case):
    def test_scaled(self):
        look = Look([(0, 2, 1), (1, 3, -5)])
        self.same(scaled_look(look, 3).rows, ((0, 2, 3), (1, 3, -15)))
        self.same(scaled_look(look=look, by=-200000).rows, ((0, 2, -200000), (1, 3, FAR)))
        self.same(scaled_look(window(0, 1, 0), FAR).rows, ((0, 0, FAR),))
        self.same(look.rows, ((0, 2, 1), (1, 3, -5)))

    def test_wrong_values(self):
        look = Look([(0, 2, 1), (1, 3, -5)])
        for value in NO_LOOKS:
            self.wrong(BadLook("look"), scaled_look, value, 1)
            self.wrong(BadLook("look"), scaled_look, value, 0)
        for value in [*NO_INTEGERS, 0, FAR + 1, -FAR - 1]:
            self.wrong(BadNumber("by"), scaled_look, look, value)
        self.wrong(TooMany("weight", FAR), scaled_look, look, 200001)
        self.wrong(TooMany("weight", FAR), scaled_look, look, -200001)


class Moved(Case):
    def test_moved(self):
        look = Look([(0, 2, 1), (1, 3, -5)])
        self.same(moved_look(look, 0, 0).rows, look.rows)
        self.same(moved_look(look, -7, 1).rows, ((-7, 3, 1), (-6, 4, -5)))
        self.same(moved_look(look=look, spots=FAR - 1, ticks=-2).rows, ((FAR - 1, 0, 1), (FAR, 1, -5)))
        self.same(moved_look(look, -FAR, 57).rows, ((-FAR, 59, 1), (1 - FAR, 60, -5)))
        self.same(moved_look(look, 1, 0).colour, 1)
        self.same(moved_look(look, 1, 1).colour, 0)

    def test_wrong_values(self):
        look = Look([(0, 2, 1), (1, 3, -5)])
        for value in NO_LOOKS:
            self.wrong(BadLook("look"), moved_look, value, None, None)
        for value in NO_INTEGERS:
            self.wrong(BadNumber("spots"), moved_look, look, value, 0)
            self.wrong(BadNumber("spots"), moved_look, look, value, None)
            self.wrong(BadNumber("ticks"), moved_look, look, 0, value)
            self.wrong(BadNumber("ticks"), moved_look, look, 10 ** 9, value)

    def test_misfits(self):
        look = Look([(0, 2, 1), (1, 3, -5)])
        self.wrong(Misfit("spots"), moved_look, look, FAR, 0)
        self.wrong(Misfit("spots"), moved_look, look, -FAR - 1, 0)
        self.wrong(Misfit("ticks"), moved_look, look, 0, 58)
        self.wrong(Misfit("ticks"), moved_look, look, 0, -3)
        self.wrong(Misfit("spots"), moved_look, look, 10 ** 90, 10 ** 90)
        self.wrong(Misfit("ticks"), moved_look, look, 0, -(10 ** 90))
