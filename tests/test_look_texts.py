"""The text of a Look."""

import random
import re

from nodice.errors import BadText
from nodice.looks import Look, visits, window
from tests.support import NO_INTEGERS, NO_LISTS, Case, variants

FAR = 1000000
NUMBER = re.compile("0|-?[1-9][0-9]{0,139}", re.ASCII)
ODD_ITEMS = [
    "", "/", "//", "-", "+1", "01", "-0", "00", "--1", "1.0", "1_0", "x", "\u0663", "\u00b2", "1\n", "\t",
    "0", "1", "2", "3", "4", "5", "-1", "60", "61", str(FAR), str(-FAR), str(FAR + 1), str(-FAR - 1),
    "9" * 140, "9" * 141, "-" + "9" * 141, "True",
]
BOUNDS = [(-FAR, FAR), (0, 60), (-FAR, FAR)]


def fault_of(items):
    """The index that is told for a text of these items; None for the text of a Look."""
    rows = [[]]
    for index, item in enumerate(items):
        place = index % 4
        if place == 3:
            if item != "/" or len(rows) == 40:
                return index
            rows.append([])
            continue
        if not NUMBER.fullmatch(item) or not BOUNDS[place][0] <= int(item) <= BOUNDS[place][1]:
            return index
        rows[-1].append(int(item))
        if place == 1 and len(rows) > 1:
            spot, tick = rows[-1]
            if [tick, spot] <= [rows[-2][1], rows[-2][0]] or (spot + tick - sum(rows[0][:2])) % 2:
                return index
        if place == 2 and item == "0":
            return index
    return None if len(rows[-1]) == 3 else len(items)


class LookTexts(Case):
    def try_text(self, items):
        text = " ".join(items)
        fault = fault_of(text.split(" "))
        if fault is None:
            self.assertEqual(str(Look.read(text)), text)
        else:
            self.wrong(BadText(0, fault), Look.read, text)

    def test_written(self):
        self.assertEqual(str(Look([(2, 4, -1), [0, 4, 1], (1, 1, 3)])), "1 1 3 / 0 4 1 / 2 4 -1")
        self.assertEqual(str(Look([(-FAR, 60, -FAR)])), "-1000000 60 -1000000")

    def test_read_back(self):
        maker = random.Random(12)
        for many in (1, 2, 5, 39, 40):
            for _ in range(10):
                places = maker.sample([(s, t) for s in range(-9, 10) for t in range(61) if (s + t) % 2 == 0], many)
                look = Look([(s, t, maker.choice([-FAR, -3, 1, 70, FAR])) for s, t in places])
                again = Look.read(str(look))
                self.assertIs(again == look, True)
                self.assertIs(again.__class__, Look)
                self.same((again.rows, again.last, again.colour), (look.rows, look.last, look.colour))
        self.assertEqual(Look.read(text="5 0 1").rows, ((5, 0, 1),))

    def test_told_faults(self):
        for text, item in (
            ("", 0), ("x", 0), (" ", 0), ("0", 1), ("0 ", 1), ("0 0", 2), ("0 0 0", 2), ("0 0 1 ", 3), ("0 0 1 /", 4),
            ("0 0 1 / ", 4), ("0 0 1 1", 3), ("0 0 1 / 2", 5), ("0 0 1 / 2 0", 6), ("0 0 1 / 2 1 1", 5),
            ("0 0 1 / 0 0 1", 5), ("2 0 1 / 0 0 1", 5), ("0 4 1 / 1 1 3", 5), ("0 4 1 / 1 5 0", 6), ("0 0 1 //", 3),
            ("0  1", 1), ("0 61 1", 1), ("0 -1 1", 1), ("1000001 0 1", 0), ("-1000001 0 1", 0), ("0 0 1000001", 2),
            ("0 0 -1000001", 2), ("0 0 +1", 2), ("0 0 01", 2), ("0 0 -0", 2), ("-0 0 1", 0), ("0 0 1\n", 2),
            # The spot is within its bounds; that no row can come behind shows at the tick.
            ("1000000 60 1 / 5 60 1", 5), ("1000000 60 1 /", 4),
        ):
            self.assertEqual(fault_of(text.split(" ")), item, text)
            self.wrong(BadText(0, item), Look.read, text)

    def test_forty_rows(self):
        text = str(window(0, 40, 7))
        self.assertEqual(len(Look.read(text).rows), 40)
        self.wrong(BadText(0, 159), Look.read, text + " /")
        self.wrong(BadText(0, 159), Look.read, text + " / 80 7 1")
        self.wrong(BadText(0, 159), Look.read, text + " x")

    def test_no_strings(self):
        for value in NO_INTEGERS + NO_LISTS + [b"0 0 1", ["0", "0", "1"], window(0, 1, 0), (0, 0, 1)]:
            if not isinstance(value, str):
                self.wrong(BadText(0, 0), Look.read, value)

    def test_each_item_in_turn(self):
        for look in (
            window(0, 1, 0), window(-1, 3, 5), visits(2, 5), Look([(2, 4, -1), (0, 4, 1), (1, 1, 3)]),
            Look([(-FAR, 0, FAR), (FAR, 60, -FAR)]),
        ):
            items = str(look).split(" ")
            self.try_text(items)
            for changed in variants(items, ODD_ITEMS):
                self.try_text(changed)

    def test_rows_exchanged(self):
        rows = str(Look([(2, 4, -1), (0, 4, 1), (1, 1, 3), (0, 6, 2)])).split(" / ")
        for one in range(4):
            for other in range(one + 1, 4):
                changed = list(rows)
                changed[one], changed[other] = rows[other], rows[one]
                self.try_text(" / ".join(changed).split(" "))
                self.assertIsNotNone(fault_of(" / ".join(changed).split(" ")))
