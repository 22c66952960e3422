"""Orders: their words, and what stands behind them."""

import random
import re
import time

from nodice.boards import Board
from nodice.desk_lines import read_order
from nodice.errors import BadText
from nodice.games import Game
from nodice.looks import Look
from tests import some_games, test_board_texts, test_look_texts
from tests.some_games import FULL, PURSE
from tests.support import NO_INTEGERS, NO_LISTS, Case, variants

NUMBER = re.compile("0|-?[1-9][0-9]{0,139}", re.ASCII)
# What stands behind each word: bounds of its integers.
BOUNDS = {
    "tick": [(0, 200)], "play": [(0, 59)], "odds": [(0, 8)], "bound": [(0, 8)],
    **{word: [(None, None)] for word in "heap hand mean gap adds".split()},
    **{word: [] for word in "reach worth off reaches wins hands undo".split()},
}
TEXTS = {"look": test_look_texts, "board": test_board_texts, "game": some_games}
WORDS = [*BOUNDS, *TEXTS, "start", "picture"]
ODD_ITEMS = [
    "", "/", "//", "x", "-", "+1", "01", "-0", "--1", "1.0", "1_0", "\u0663", "\u00b2", "1\n", "tick", "Tick", "undo", "{",
    "0", "1", "2", "3", "8", "9", "59", "60", "119", "120", "200", "201", "-1", "-2", "1000000", "1000001", "-1000001",
    "1" + "0" * 60, "1" + "0" * 59 + "1", "9" * 140, "-" + "9" * 140, "9" * 141, "-" + "9" * 141,
]


def number_of(item, least, most):
    """The integer of an item, None if it is none within the bounds."""
    if not NUMBER.fullmatch(item):
        return None
    number = int(item)
    return number if (least is None or number >= least) and (most is None or number <= most) else None


def fault_of(items):
    """The index that is told for an order of these items; None for an order."""
    word, behind = items[0], items[1:]
    if word in TEXTS:
        fault = TEXTS[word].fault_of(behind or [""])
        return None if fault is None else fault + 1
    if word == "start":
        return fault_of_start(behind)
    if word not in BOUNDS and word != "picture":
        return 0
    wanted = BOUNDS.get(word, [(None, None), (None, None)])
    for at, (least, most) in enumerate(wanted):
        if at == len(behind) or number_of(behind[at], least, most) is None:
            return at + 1
        if word == "picture" and at == 1 and not 0 <= int(behind[1]) - int(behind[0]) <= 119:
            return 2
    return len(wanted) + 1 if len(behind) > len(wanted) else None


def fault_of_start(behind):
    end = behind.index("/") if "/" in behind else len(behind)
    spots = []
    for at in range(end):
        number = number_of(behind[at], *[(-10 ** 6, 10 ** 6), (1, 10 ** 60)][at % 2])
        if number is None:
            return at + 1
        if at % 2 == 0:
            if number in spots or len(spots) == 60 or (spots and (spots[0] + number) % 2 == 1):
                return at + 1
            spots.append(number)
    if end == len(behind) or end % 2 == 1:
        return end + 1
    lefts = []
    for at in range(end + 1, len(behind)):
        number = number_of(behind[at], -10 ** 6, 10 ** 6)
        if number is None or number in lefts or len(lefts) == 400:
            return at + 1
        lefts.append(number)
    return None


def values_of(items):
    """What is told of an order without a fault."""
    word, behind = items[0], items[1:]
    if word in TEXTS:
        return (word, {"look": Look, "board": Board, "game": Game}[word].read(" ".join(behind)))
    if word != "start":
        return (word, *map(int, behind))
    end = behind.index("/")
    heaps = sorted((int(behind[at]), int(behind[at + 1])) for at in range(0, end, 2))
    return (word, tuple(heaps), tuple(sorted(map(int, behind[end + 1:]))))


class Orders(Case):
    def try_order(self, items):
        order = " ".join(items)
        items = order.split(" ")
        fault = fault_of(items)
        if fault is not None:
            self.wrong(BadText(0, fault), read_order, order)
            return
        found = read_order(order)
        if items[0] in TEXTS:
            self.assertIs(found.__class__, tuple)
            self.assertEqual((found[0], len(found)), (items[0], 2))
            self.assertIs(found[1] == values_of(items)[1], True)
            self.assertIs(found[1].__class__, values_of(items)[1].__class__)
        else:
            self.same(found, values_of(items))

    def test_bounds(self):
        great = ["9" * 140, "-" + "9" * 140]
        for word, bounds in BOUNDS.items():
            if not bounds:
                self.same(read_order(word), (word,))
                self.wrong(BadText(0, 1), read_order, f"{word} ")
                self.wrong(BadText(0, 1), read_order, f"{word} 1")
                continue
            (least, most), = bounds
            numbers = [0, 1, 5] + ([int(item) for item in great] if most is None else [least, most])
            for number in numbers:
                self.same(read_order(order=f"{word} {number}"), (word, number))
                self.wrong(BadText(0, 2), read_order, f"{word} {number} 1")
                self.wrong(BadText(0, 2), read_order, f"{word} {number} ")
            for item in ["9" * 141, "", "x"] + ([] if most is None else [str(least - 1), str(most + 1)]):
                self.wrong(BadText(0, 1), read_order, f"{word} {item}")
            self.wrong(BadText(0, 1), read_order, word)

    def test_each_item_in_turn(self):
        for order in (
            "start 2 1 0 7 / 5 -5", "start /", "start 0 1 / 0", "start -3 5 1 1 -1 2 /", "picture -2 2", "picture 0 119", "picture 5 5",
            "look 0 2 1 / 2 2 -1", "board 2 / 1 3 / 2 0", f"game {some_games.STUCK}", *[f"{word} 1" for word in BOUNDS if BOUNDS[word]],
            *[word for word in BOUNDS if not BOUNDS[word]],
        ):
            items = order.split(" ")
            self.assertIs(fault_of(items), None, order)
            self.try_order(items)
            for changed in variants(items, [*ODD_ITEMS, *maker_words(order)]):
                self.try_order(changed)

    def test_words(self):
        for word in WORDS:
            for other in (word.upper(), word.title(), word + "s", word[:-1], f" {word}", f"{word}\n", "\u00e4" + word, f"{word}/"):
                self.try_order([other])
                self.try_order([other, "1"])
                self.try_order([other, "0", "0"])
        for order in ("", " ", "  ", "/", "0", "heaps 1", "lefts 1", "x", "None", "tick\t5", "wins 0", "undo undo", "start/"):
            self.try_order(order.split(" "))
        self.wrong(BadText(0, 0), read_order, "")
        self.wrong(BadText(0, 0), read_order, " undo")

    def test_start(self):
        heaps = [f"{2 * spot} {spot + 1}" for spot in range(60)]
        lefts = [str(spot) for spot in range(200, -200, -1)]
        items = " ".join(["start", *heaps[::-1], "/", *lefts]).split(" ")
        found = read_order(" ".join(items))
        self.same(found, ("start", tuple((2 * k, k + 1) for k in range(60)), tuple(range(-199, 201))))
        for more, item in ((["-2", "1"], 121), (["-2", "x"], 121), (["-2"], 121), (["/"], None), (["x"], 121)):
            changed = items[:121] + more + items[121:]
            self.try_order(changed)
            if item is not None:
                self.wrong(BadText(0, item), read_order, " ".join(changed))
        for more in (["-200"], ["x"], [""], ["0"], ["/"]):
            self.wrong(BadText(0, 522), read_order, " ".join(items + more))
            self.assertEqual(fault_of(items + more), 522)
        self.same(read_order("start -1000000 1 1000000 " + "1" + "0" * 60 + " / 1000000 -1000000"),
                  ("start", ((-1000000, 1), (1000000, 10 ** 60)), (-1000000, 1000000)))
        for order, item in (
            ("start", 1), ("start 0", 2), ("start 0 1", 3), ("start 0 /", 2), ("start 0 0 /", 2), ("start 0 -1 /", 2),
            ("start 0 1 0 1 /", 3), ("start 0 1 2 1 0 1 /", 5), ("start 0 1 1 1 /", 3), ("start 1 1 -1 1 0 1 /", 5),
            ("start / 0 0", 3), ("start / 0 1 0", 4), ("start / /", 2), ("start / 1000001", 2), ("start 1000001 1 /", 1),
            ("start 0 1" + "0" * 59 + "1 /", 2), ("start / ", 2), ("start  /", 1), ("start 0 1 2 /", 4),
        ):
            self.assertEqual(fault_of(order.split(" ")), item, order)
            self.wrong(BadText(0, item), read_order, order)

    def test_pictures(self):
        for low in (0, -7, 10 ** 70, -10 ** 139):
            for wide in (-1, 0, 1, 119, 120, 10 ** 30):
                self.try_order(["picture", str(low), str(low + wide)])
        self.same(read_order("picture 0 119"), ("picture", 0, 119))
        self.wrong(BadText(0, 2), read_order, "picture 0 120")
        self.wrong(BadText(0, 2), read_order, "picture 1 0")
        self.wrong(BadText(0, 2), read_order, "picture 0")
        self.wrong(BadText(0, 3), read_order, "picture 0 0 0")

    def test_texts(self):
        maker = random.Random(231)
        for order, odd in (
            ("look 0 2 1 / 2 2 -1 / 1 3 5", test_look_texts.ODD_ITEMS), ("board 3 / 1 3 2 / 2 0 / 0", test_board_texts.ODD_ITEMS),
            (f"game {PURSE}", ODD_ITEMS), (f"game {FULL}", ODD_ITEMS),
        ):
            items = order.split(" ")
            self.assertIs(fault_of(items), None)
            for changed in variants(items, maker.sample(odd, 12)):
                self.try_order(changed)
        for word in TEXTS:
            for order in (word, f"{word} ", f"{word}  ", f"{word} {word}"):
                self.wrong(BadText(0, 1), read_order, order)
        items = f"game numbers {{ x 0 0 0 }} turn {{ {'home 0 ' * 195}}}".split(" ")
        self.assertEqual(len(items), 401)
        self.try_order(items)
        self.wrong(BadText(0, 401), read_order, " ".join(items + ["}"]))
        self.assertEqual(fault_of(items + ["}"]), 401)

    def test_no_strings(self):
        for value in NO_INTEGERS + NO_LISTS + [b"undo", ["undo"], ("tick", 5), Look([(0, 0, 1)])]:
            if not isinstance(value, str):
                self.wrong(BadText(0, 0), read_order, value)

    def test_short_time(self):
        begin = time.perf_counter()
        for order in ("start " + "0 1 " * 4000, "heap " * 3000, "start /" + " 0" * 8000, "look " + "0 0 1 / " * 2000, "game" + " {" * 9000):
            for _ in range(20):
                self.try_order(order.split(" "))
        self.assertLess(time.perf_counter() - begin, 20)


def maker_words(order):
    """Some words that are none where they stand in an order."""
    return [word for word in ("start", "look", "board", "undo") if not order.startswith(word)]
