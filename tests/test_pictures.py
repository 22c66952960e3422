"""Pictures, films and sheets, sign by sign."""

import random
import time

from nodice.errors import BadHeaps, BadLine, BadLook, BadNumber, Misfit
from nodice.lines import Line
from nodice.looks import Look, visits, window
from nodice.pictures import film, look_sheet, picture
from tests.support import NO_INTEGERS, Case, played
from tests.test_changes import told_change
from tests.test_heaps import GREAT, MIXED, NO_HEAPS
from tests.test_lines import NO_LEFTS, NO_LINES, some_start
from tests.test_looks import NO_LOOKS
from tests.test_worths_of_looks import some_look

FAR = 10 ** 70
NO_HIGHS = [-3, -1, 118 + 2, 121, FAR, -FAR]


def drawn_picture(chips, lefts, low, high):
    signs = ""
    for spot in range(low, high + 1):
        if not chips.get(spot):
            signs += "."
        elif chips[spot] % 2 == 0:
            signs += "="
        else:
            signs += "<" if spot in lefts else ">"
    return signs


def drawn_sheet(look, low, high):
    weights = {(spot, tick): weight for spot, tick, weight in look.rows}
    rows = []
    for tick in range(look.last + 1):
        row = ""
        for spot in range(low, high + 1):
            if (spot, tick) in weights:
                row += "+" if weights[spot, tick] > 0 else "-"
            else:
                change = told_change(look, spot, tick)
                row += ">" if change > 0 else "<" if change < 0 else "."
        rows.append(row)
    return tuple(rows)


class Pictures(Case):
    def test_against_chips(self):
        maker = random.Random(221)
        for _ in range(60):
            heaps, lefts = some_start(maker, 5, 30)
            low = maker.randrange(-14, 5)
            high = low + maker.randrange(25)
            wanted = []
            for tick in range(9):
                wanted.append(drawn_picture(*played(heaps, lefts, tick), low, high))
                line = Line(heaps, lefts)
                line.forward(tick)
                kept = str(line)
                self.same(picture(line, low, high), wanted[-1])
                self.assertEqual((str(line), line.tick), (kept, tick))
                self.same(film(heaps, lefts, low, high, tick), tuple(wanted))
            self.same(film(heaps=tuple(heaps), lefts=tuple(lefts), low=low, high=high, ticks=3), tuple(wanted[:4]))

    def test_edges(self):
        line = Line([(0, 1), (2, 2), (4, 3), (-2, GREAT)], [4, 1])
        self.same(picture(line, -3, 5), ".=.>.=.<.")
        self.same(picture(line=line, low=0, high=0), ">")
        self.same(picture(line, 1, 1), ".")
        self.same(picture(line, -60, 59), "." * 58 + "=.>.=.<" + "." * 55)
        self.same(picture(line, FAR, FAR + 119), "." * 120)
        self.same(picture(line, -FAR, 119 - FAR), "." * 120)
        self.same(picture(Line.read(f"7 / {10 ** 139 + 1} 5 / {10 ** 139 + 1}"), 10 ** 139, 10 ** 139 + 2), ".<.")
        self.same(film([], [], 5, 5, 0), (".",))
        self.same(film([], [0], 0, 1, 60), ("..",) * 61)
        self.same(film([(1000000, 1)], [], 1000000, 1000002, 2), (">..", ".>.", "..>"))

    def test_wrong_values(self):
        line = Line([(0, 1)], [])
        for value in NO_LINES:
            self.wrong(BadLine("line"), picture, value, None, None)
        for value in NO_HEAPS:
            self.wrong(BadHeaps("heaps"), film, value, None, None, None, None)
        for heaps in ([(0, 1)], *MIXED):
            for value in NO_LEFTS:
                self.wrong(BadNumber("lefts"), film, heaps, value, None, None, None)
            for value in NO_INTEGERS:
                self.wrong(BadNumber("low"), film, heaps, [], value, None, None)
                self.wrong(BadNumber("high"), film, heaps, [], 0, value, None)
            for value in NO_HIGHS:
                self.wrong(BadNumber("high"), film, heaps, [], 0, value, None)
            for value in [*NO_INTEGERS, -1, 61, FAR]:
                self.wrong(BadNumber("ticks"), film, heaps, [], 0, 1, value)
        for heaps in MIXED:
            for ticks in (0, 60):
                self.wrong(Misfit("colour"), film, heaps, [], 0, 1, ticks)
        for value in NO_INTEGERS:
            self.wrong(BadNumber("low"), picture, line, value, None)
            self.wrong(BadNumber("high"), picture, line, 0, value)
        for value in NO_HIGHS:
            self.wrong(BadNumber("high"), picture, line, 0, value)
            self.wrong(BadNumber("high"), picture, line, 5, value + 5)
            self.wrong(BadNumber("high"), picture, line, -FAR, value - FAR)
        self.assertEqual(len(picture(line, 0, 119)), 120)
        self.assertEqual(len(film([], [], -5, 114, 60)), 61)

    def test_what_was_passed_stays(self):
        heaps, lefts = [[0, 3], [2, 1]], [2, 0]
        film(heaps, lefts, -5, 5, 9)
        self.assertEqual((heaps, lefts), ([[0, 3], [2, 1]], [2, 0]))


class Sheets(Case):
    def test_against_changes(self):
        maker = random.Random(222)
        for _ in range(40):
            look = some_look(maker, maker.randrange(2), 7)
            low = maker.randrange(-14, 5)
            high = low + maker.randrange(25)
            self.same(look_sheet(look, low, high), drawn_sheet(look, low, high))
        for look in (visits(0, 9), window(-4, 5, 8), Look([(0, 1, -1), (0, 5, 3), (2, 7, -1)])):
            self.same(look_sheet(look, -12, 12), drawn_sheet(look, -12, 12))

    def test_edges(self):
        self.same(look_sheet(window(3, 2, 0), 0, 8), ("...+.+...",))
        self.same(look_sheet(Look([(0, 0, -5)]), 0, 0), ("-",))
        self.same(look_sheet(look=Look([(0, 2, 1)]), low=-2, high=2), (">...<", ".>.<.", "..+.."))
        self.same(look_sheet(Look([(0, 2, -1)]), -2, 2), ("<...>", ".<.>.", "..-.."))
        # A row of a look hides what an odd chip changes there.
        self.same(look_sheet(Look([(0, 2, 1), (1, 1, 1)]), -1, 3)[1:], (">.+..", ".+..."))
        self.assertEqual(len(look_sheet(window(0, 40, 60), -20, 99)), 61)
        self.same(look_sheet(window(0, 1, 2), FAR, FAR + 119), ("." * 120,) * 3)
        self.same(look_sheet(window(0, 1, 60), 100, 219)[59], "." * 120)

    def test_wrong_values(self):
        look = window(0, 1, 2)
        for value in NO_LOOKS:
            self.wrong(BadLook("look"), look_sheet, value, None, None)
        for value in NO_INTEGERS:
            self.wrong(BadNumber("low"), look_sheet, look, value, None)
            self.wrong(BadNumber("high"), look_sheet, look, 0, value)
        for value in NO_HIGHS:
            self.wrong(BadNumber("high"), look_sheet, look, 0, value)
            self.wrong(BadNumber("high"), look_sheet, look, -7, value - 7)

    def test_short_time(self):
        begin = time.perf_counter()
        maker = random.Random(223)
        heaps = [(2 * spot, GREAT - spot) for spot in range(60)]
        for _ in range(3):
            self.assertEqual(len(film(heaps, [], 0, 119, 60)), 61)
            self.assertEqual(len(film([(300 * spot, GREAT) for spot in range(60)], list(range(400)), 0, 119, 60)), 61)
            look = Look([(2 * maker.randrange(10) + 200 * k, 60, maker.randrange(1, 1000)) for k in range(40)])
            self.assertEqual(len(look_sheet(look, 0, 119)), 61)
            self.assertEqual(len(look_sheet(window(0, 40, 60), 0, 119)), 61)
        self.assertLess(time.perf_counter() - begin, 20)
