"""The text of a Board."""

import random
import re

from nodice.boards import Board
from nodice.errors import BadText
from tests.support import NO_INTEGERS, NO_LISTS, Case, variants
from tests.test_boards import some_board

NUMBER = re.compile("0|-?[1-9][0-9]{0,139}", re.ASCII)
ODD_ITEMS = [
    "", "/", "//", "-", "+1", "01", "-0", "00", "--1", "1.0", "1_0", "x", "\u0663", "\u00b2", "1\n", "\t",
    "0", "1", "2", "3", "9", "10", "-1", "59", "60", "61", "68", "69", "9" * 140, "9" * 141, "-" + "9" * 141, "True",
]


def entry_of(item):
    """The number of an entry, or None for an item that is none."""
    return int(item) if NUMBER.fullmatch(item) and 0 <= int(item) <= 68 else None


def fault_of(items):
    """The index that is told for a text of these items; None for the text of a Board."""
    if items[0] not in list("123456789"):
        return 0
    rows = []
    for index, item in enumerate(items[1:], 1):
        if item == "/":
            # Behind homes, or behind a row that has an entry.
            if len(rows) == 60 or (rows and not rows[-1]):
                return index
            rows.append([])
        elif not rows or entry_of(item) is None or len(rows[-1]) == 60:
            return index
        else:
            rows[-1].append(int(item))
    if not rows or not rows[-1]:
        return len(items)
    most = len(rows) + int(items[0]) - 1
    return None if max(map(max, rows)) <= most else len(items) - 1


class BoardTexts(Case):
    def try_text(self, items):
        text = " ".join(items)
        fault = fault_of(text.split(" "))
        if fault is None:
            self.assertEqual(str(Board.read(text)), text)
        else:
            self.wrong(BadText(0, fault), Board.read, text)

    def test_written(self):
        self.assertEqual(str(Board(2, [[1, 3], [2, 0]])), "2 / 1 3 / 2 0")
        self.assertEqual(str(Board(9, [[9]])), "9 / 9")
        self.assertEqual(str(Board(9, [[68] * 60] * 60)), "9" + (" /" + " 68" * 60) * 60)

    def test_read_back(self):
        maker = random.Random(111)
        for most in (1, 4, 60):
            for _ in range(20):
                board = some_board(maker, most, most, 9)
                again = Board.read(str(board))
                self.assertIs(again == board, True)
                self.assertIs(again.__class__, Board)
                self.same((again.homes, again.places, again.rows), (board.homes, board.places, board.rows))
        self.assertEqual(Board.read(text="1 / 1 0").rows, ((1, 0),))

    def test_told_faults(self):
        for text, item in (
            ("", 0), ("x", 0), ("0", 0), ("10", 0), ("-1", 0), ("+1", 0), ("01", 0), ("/", 0), (" ", 0), ("1", 1), ("1 ", 1),
            ("1 1", 1), ("1 /", 2), ("1 / ", 2), ("1 / /", 2), ("1 / / 0", 2), ("1 / 0 /", 4), ("1 / 0 / ", 4), ("1 / 0 / /", 4),
            ("1 / 0 //", 3), ("1 / 0  / 1", 3), ("1 / 69", 2), ("1 / -1", 2), ("1 / 01", 2), ("1 / 2", 2), ("1 / 68", 2),
            ("1 / 2 0", 3), ("1 / 3 / 0", 4), ("1 / 68 / 0 / 1 1", 7), ("1 / 3 / 0 /", 6), ("1 / 3 / x", 4),
            ("9 / 10", 2), ("9 / 68 / 69", 4), ("1 / 1\n", 2), ("1\n/ 1", 0),
        ):
            self.assertEqual(fault_of(text.split(" ")), item, text)
            self.wrong(BadText(0, item), Board.read, text)

    def test_most_entries_and_places(self):
        row = ["/"] + ["0"] * 60
        for items in (["1"] + row, ["1"] + row * 60, ["9", "/", "0"] + row * 59, ["1"] + row + ["/", "1"]):
            self.assertEqual(str(Board.read(" ".join(items))), " ".join(items))
        for items, item in (
            (["1"] + row + ["0"], 62), (["1"] + row + ["0", "x"], 62), (["1"] + row + ["x"], 62), (["1"] + row + ["/"], 63),
            (["1"] + row * 60 + ["/"], 3661), (["1"] + row * 60 + ["/", "0"], 3661), (["1"] + row * 60 + ["0"], 3661),
            (["1"] + ["/", "0"] * 60 + ["/"], 121), (["1"] + ["/", "68"] * 61, 121), (["1"] + ["/", "61"] * 60, 120),
        ):
            self.assertEqual(fault_of(items), item)
            self.wrong(BadText(0, item), Board.read, " ".join(items))
        self.assertEqual(Board.read("1" + " / 60" * 60).places, 60)

    def test_no_strings(self):
        for value in NO_INTEGERS + NO_LISTS + [b"1 / 0", ["1", "/", "0"], Board(1, [[0]]), (1, [[0]])]:
            if not isinstance(value, str):
                self.wrong(BadText(0, 0), Board.read, value)

    def test_each_item_in_turn(self):
        for board in (
            Board(1, [[0]]), Board(2, [[1, 3], [2, 0]]), Board(9, [[9, 0, 0]]), Board(1, [[3, 0], [2], [0, 1, 3]]),
            Board(9, [[12, 3], [0], [1, 1], [2]]),
        ):
            items = str(board).split(" ")
            self.try_text(items)
            for changed in variants(items, ODD_ITEMS):
                self.try_text(changed)
