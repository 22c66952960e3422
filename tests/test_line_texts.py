"""The text of a Line."""

import random
import re

from nodice.errors import BadText
from nodice.lines import Line
from tests.support import NO_INTEGERS, NO_LISTS, Case, variants
from tests.test_heaps import FAR, GREAT
from tests.test_lines import some_start

NUMBER = re.compile("0|-?[1-9][0-9]{0,139}", re.ASCII)
ODD_ITEMS = [
    "", "/", "//", "-", "+1", "01", "-0", "00", "-01", "--1", "1.0", "1_0", "x", "\u0663", "\u00b2", "1\n",
    "\t", "0", "1", "2", "3", "-1", "-2", "9" * 140, "9" * 141, "-" + "9" * 140, "-" + "9" * 141,
    str(FAR + 1), str(FAR + 2), str(GREAT + 1), "True", "None",
]
ENDS = [[], ["/"], ["/", "/"], ["1", "/"]]


def is_line(items):
    """Whether just these items are the text of a Line."""
    if len(items) < 3 or items[1] != "/" or items.count("/") != 2:
        return False
    if not all(item == "/" or NUMBER.fullmatch(item) for item in items):
        return False
    end = items.index("/", 2)
    heaps, lefts = [int(item) for item in items[2:end]], [int(item) for item in items[end + 1:]]
    spots, many = heaps[0::2], heaps[1::2]
    if len(spots) != len(many) or min([1, *many]) < 1 or int(items[0]) < 0:
        return False
    if len({spot % 2 for spot in spots}) > 1:
        return False
    return spots == sorted(set(spots)) and lefts == sorted(set(lefts))


def fault_of(items):
    """The first item behind which no end makes a text; None for a text."""
    for index in range(len(items)):
        if not any(is_line(items[:index + 1] + end) for end in ENDS):
            return index
    return None if is_line(items) else len(items)


class LineTexts(Case):
    def try_text(self, items):
        text = " ".join(items)
        fault = fault_of(text.split(" "))
        if fault is None:
            self.assertEqual(str(Line.read(text)), text)
        else:
            self.wrong(BadText(0, fault), Line.read, text)

    def test_written(self):
        self.assertEqual(str(Line([], [])), "0 / /")
        self.assertEqual(str(Line([(4, 1), (-2, 7)], [3, -5])), "0 / -2 7 4 1 / -5 3")
        self.assertEqual(str(Line([(0, GREAT)], [])), "0 / 0 " + "1" + 60 * "0" + " /")

    def test_read_back(self):
        maker = random.Random(5)
        for ticks in (0, 0, 1, 2, 5, 17, 200):
            for _ in range(8):
                line = Line(*some_start(maker, 6, 10 ** maker.randrange(1, 60)))
                line.forward(ticks)
                again = Line.read(str(line))
                self.assertIs(again == line, True)
                self.assertIs(again.__class__, Line)
                self.same((again.tick, again.heaps, again.lefts), (line.tick, line.heaps, line.lefts))
                line.advance()
                again.advance()
                self.assertEqual(again, line)

    def test_what_no_start_leads_to(self):
        far = 10 ** 139
        for text in (
            "7 / 0 1 2 5 / 4", f"{far} / {-far} {far} {far} 1 / {-far} {far}", "1 / 0 1 /", "3 / 1 1 / 9",
            "0 / " + " ".join(f"{2 * spot} 1" for spot in range(500)) + " /",
            "0 / / " + " ".join(str(spot) for spot in range(1000)),
        ):
            self.assertEqual(str(Line.read(text=text)), text)
        self.assertEqual(Line.read("7 / 0 1 2 5 / 4").heaps, ((0, 1), (2, 5)))
        self.assertEqual(Line.read("7 / 0 1 2 5 / 4").lefts, (4,))
        self.assertEqual(Line.read("7 / 0 1 2 5 / 4").advance(), 8)

    def test_told_faults(self):
        for text, item in (
            ("", 0), (" ", 0), ("x", 0), ("-1 / /", 0), ("0", 1), ("0 ", 1), ("0 0", 1), ("0 /", 2), ("0 / ", 2),
            ("0 / 0", 3), ("0 / 0 /", 3), ("0 / 0 0 /", 3), ("0 / 0 -1 /", 3), ("0 / 0 1", 4),
            ("0 / 0 1 0 1 /", 4), ("0 / 0 1 -2 1 /", 4), ("0 / 0 1 1 1 /", 4), ("0 / 0 1 2 1", 6), ("0 / / ", 3),
            ("0 / / 1 1", 4), ("0 / / 1 0", 4), ("0 / / 1 2 ", 5), ("0 / / /", 3), ("0 / / 1 /", 4),
            ("0  / /", 1), (" 0 / /", 0), ("0 / /\n", 2), ("+0 / /", 0), ("00 / /", 0), ("-0 / /", 0),
            ("9" * 141 + " / /", 0), ("0 / " + "9" * 141 + " 1 /", 2), ("0 / 1 " + "1" * 141 + " /", 3),
        ):
            self.assertEqual(fault_of(text.split(" ")), item, text)
            self.wrong(BadText(0, item), Line.read, text)

    def test_no_strings(self):
        for value in NO_INTEGERS + NO_LISTS + [b"0 / /", ["0", "/", "/"], Line([], [])]:
            if not isinstance(value, str):
                self.wrong(BadText(0, 0), Line.read, value)

    def test_each_item_in_turn(self):
        for text in ("0 / /", "3 / -2 1 0 10 4 3 / -7 0 1", "12 / 5 1 /", "1 / / 2", "0 / 1 1 3 1 / 0 1 2"):
            items = text.split(" ")
            self.try_text(items)
            for changed in variants(items, ODD_ITEMS):
                self.try_text(changed)
