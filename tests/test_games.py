"""Games and their texts."""

import random
import time

from nodice.errors import BadText
from nodice.games import Game
from tests.some_games import FULL, LADDER, PURSE, STUCK, fault_of, some_game
from tests.support import NO_INTEGERS, NO_LISTS, Case, variants

ODD_ITEMS = [
    "", "{", "}", "=", "<", ">", "not", "if", "else", "chance", "dice", "home", "set", "copy", "numbers", "turn", "a", "bb",
    "b", "abcdefgh", "abcdefghi", "Home", "A", "a1", "\u00e4", "\u00aa", "+1", "01", "-0", "--1", "1.0", "1_0", "\u0663",
    "0", "1", "2", "8", "9", "10", "12", "13", "99", "100", "-1", "-99", "-100", "9" * 141, "1\n", "\t",
]


class Games(Case):
    def try_text(self, items):
        text = " ".join(items)
        fault = fault_of(text.split(" "))
        if fault is None:
            self.assertEqual(str(Game.read(text)), text)
        else:
            self.wrong(BadText(0, fault), Game.read, text)
            self.wrong(BadText(0, fault), Game, text)

    def test_attributes(self):
        game = Game(PURSE)
        self.same((game.names, game.lows, game.highs, game.begins, game.homes), (("purse",), (0,), (3,), (1,), 2))
        self.same((game.text, str(game)), (PURSE, PURSE))
        game = Game.read(text=FULL)
        self.same(game.names, ("a", "bb", "ccc", "d"))
        self.same((game.lows, game.highs, game.begins), ((0, -3, -99, 7), (5, 3, 99, 7), (2, -1, 0, 7)))
        self.same((game.homes, game.text), (9, FULL))
        for home in range(9):
            self.same(Game(f"numbers {{ x 0 0 0 }} turn {{ home {home} }}").homes, home + 1)
            self.same(Game(f"numbers {{ x 0 0 0 }} turn {{ home {home} home 0 }}").homes, home + 1)

    def test_equality(self):
        game = Game(PURSE)
        self.assertIs(game == Game.read(PURSE), True)
        self.assertIs(game != Game.read(PURSE), False)
        for other in (Game(LADDER), Game(PURSE.replace("purse", "x")), PURSE, None, True, (game,), Game):
            self.assertIs(game == other, False)
            self.assertIs(game != other, True)

    def test_told_faults(self):
        for text, item in (
            ("", 0), ("numbers", 1), ("numbers {", 2), ("numbers { }", 2), ("turn", 0), ("numbers numbers", 1),
            ("numbers { x", 3), ("numbers { x 0 0", 5), ("numbers { x 0 0 0", 6), ("numbers { x 0 0 0 }", 7),
            ("numbers { x 0 0 0 } turn", 8), ("numbers { x 0 0 0 } turn {", 9), ("numbers { x 0 0 0 } turn { }", 9),
            ("numbers { x 0 0 0 } turn { } }", 10), ("numbers { x 0 0 0 } turn { home 0 } ", 12),
            ("numbers { x 0 0 0 } turn { home 0 }  ", 12), ("numbers { x 0 0 0 } turn { home 0 }\n", 11),
            ("numbers { x 0 0 0  } turn { home 0 }", 6), ("numbers { x 1 0 0 } turn { home 0 }", 4),
            ("numbers { x 0 1 2 } turn { home 0 }", 5), ("numbers { x 0 1 -1 } turn { home 0 }", 5),
            ("numbers { x -99 99 100 } turn { home 0 }", 5), ("numbers { x -100 99 0 } turn { home 0 }", 3),
            ("numbers { x 0 0 0 x 0 0 0 } turn { home 0 }", 6), ("numbers { if 0 0 0 } turn { home 0 }", 2),
            ("numbers { x 0 0 0 } turn { else }", 9), ("numbers { x 0 0 0 } turn { x }", 9),
            ("numbers { x 0 0 0 } turn { if x = 0 { } else { } else { } home 0 }", 18),
            ("numbers { x 0 0 0 } turn { chance 1 1 { } home 0 }", 14), ("numbers { x 0 0 0 } turn { chance 1 1 { } }", 14),
            ("numbers { x 0 0 0 } turn { if not not { } home 0 }", 12), ("numbers { x 0 0 0 } turn { if x { } }", 11),
            ("numbers { x 0 0 0 } turn { if 0 = x { } home 0 }", 10), ("numbers { x 0 0 0 } turn { if x = y { } home 0 }", 12),
            ("numbers { x 0 0 0 } turn { if x > 0 { } home 0 }", 11), ("numbers { x 0 0 0 } turn { if x = not { } home 0 }", 12),
            ("numbers { x 0 0 0 } turn { set x x home 0 }", 11), ("numbers { x 0 0 0 } turn { copy x 0 home 0 }", 11),
            ("numbers { x 0 0 0 } turn { dice x 6 home 0 }", 10), ("numbers { x 0 0 0 } turn { { } home 0 }", 9),
        ):
            self.assertEqual(fault_of(text.split(" ")), item, text)
            self.wrong(BadText(0, item), Game.read, text)

    def test_names(self):
        for name, right in (
            ("x", True), ("abcdefgh", True), ("abcdefghi", False), ("", False), ("zzzzzzzz", True), ("Aa", False), ("a1", False),
            ("a_", False), ("-", False), ("\u00e4", False), ("\u0436", False), ("\u2170", False), ("nots", True), ("homes", True),
            *[(word, False) for word in "numbers turn set up down copy add dice chance else if not home".split()],
        ):
            text = f"numbers {{ {name} 0 1 0 }} turn {{ up {name} 1 home 0 }}"
            if right:
                self.same(Game(text).names, (name,))
            else:
                self.wrong(BadText(0, 2), Game, text)
                self.wrong(BadText(0, 6), Game, text.replace(f"{name} 0 1 0", f"y 0 0 0 {name} 0 1 0", 1) if name else
                           "numbers { y 0 0 0  0 1 0 } turn { home 0 }")

    def test_how_many_numbers(self):
        for many in range(7):
            numbers = " ".join(f"{name} 0 0 0" for name in "abcdef"[:many])
            items = f"numbers {{ {numbers} }} turn {{ home 0 }}".split() if many else "numbers { } turn { home 0 }".split()
            self.assertEqual(fault_of(items), {0: 2, 5: 18, 6: 18}.get(many))
            self.try_text(items)

    def test_bounds_of_integers(self):
        for deed, least, most in (
            ("set x N", -99, 99), ("up x N", 1, 99), ("down x N", 1, 99), ("dice N x", 2, 12), ("chance N 1 { } else { }", 1, 9),
            ("chance 1 N { } else { }", 1, 9), ("home N", 0, 8), ("if x = N { }", -99, 99), ("if not x < N { } else { }", -99, 99),
        ):
            items = f"numbers {{ x 0 0 0 }} turn {{ {deed} home 0 }}".split()
            at = items.index("N")
            for number in range(-102, 103):
                items[at] = str(number)
                self.assertEqual(fault_of(items), None if least <= number <= most else at)
                self.try_text(items)
            for item in ("+1", "01", "-0", "1.0", "", "1 ", "-", "\u0661", "9" * 140, "-" + "9" * 140, "9" * 141, "x1", "True"):
                items[at] = item
                self.try_text(items)

    def test_bounds_of_numbers(self):
        for low in (-100, -99, -98, 0, 98, 99, 100):
            for high in (-100, -99, -98, 0, 98, 99, 100):
                for begin in (-100, -99, -98, 0, 98, 99, 100):
                    items = f"numbers {{ x {low} {high} {begin} }} turn {{ home 0 }}".split()
                    right = -99 <= low <= begin <= high <= 99
                    self.assertEqual(fault_of(items) is None, right)
                    self.try_text(items)

    def test_most_braces(self):
        for many in range(8, 15):
            for head, behind in (("if x = 0 {", "}"), ("chance 1 1 {", "} else { }"), ("if x < 1 { } else {", "}")):
                deeds = f"{head} " * many + "home 0" + f" {behind}" * many
                items = f"numbers {{ x 0 0 0 }} turn {{ {deeds} }}".split()
                self.assertEqual(fault_of(items) is None, many <= 11)
                self.try_text(items)
        # An else that would be the 13th brace open, behind one that is the 12th.
        deeds = "if x = 0 { " * 11 + "chance 1 1 { } else { } home 0" + " }" * 11
        self.try_text(f"numbers {{ x 0 0 0 }} turn {{ {deeds} }}".split())
        deeds = "if x = 0 { " * 10 + "chance 1 1 { } else { home 0 }" + " }" * 10
        self.assertEqual(Game(f"numbers {{ x 0 0 0 }} turn {{ {deeds} }}").homes, 1)

    def test_most_items(self):
        head, last = "numbers { x 0 0 0 } turn {".split(), "home 0 }".split()
        for more in (0, 1, 2):
            items = head + ["up", "x", "1"] * 128 + ["home", "0"] * more + last
            self.assertEqual(len(items), 396 + 2 * more)
            self.assertIs(fault_of(items), None)
            self.try_text(items)
        items = head + ["home", "0"] * 195 + ["}"]
        self.assertEqual((len(items), fault_of(items)), (400, None))
        for more in (["}"], ["x"], [""], ["home", "0"], ["}"] * 200):
            self.assertEqual(fault_of(items + more), 400)
            self.assertEqual(fault_of(items[:-1] + ["home", "0"] + more), 400)
            self.try_text(items + more)
            self.try_text(items[:-1] + ["home", "0"] + more)
            self.try_text(items[:-1] + more)
        self.try_text(items[:-1])
        self.try_text(items[:-1] + ["if"])
        self.try_text(head + ["home", "0"] * 194 + ["if", "x", "=", "0"])
        self.try_text(head + ["home", "0"] * 194 + ["if", "x", "=", "0", "{", "}", "}"])
        self.try_text(head + ["set", "x", "0"] * 130 + ["}"] * 20)
        self.try_text(head + ["set", "x", "0"] * 130 + ["}"])

    def test_no_strings(self):
        for value in NO_INTEGERS + NO_LISTS + [PURSE.encode(), PURSE.split(" "), Game(PURSE), (PURSE,)]:
            if not isinstance(value, str):
                self.wrong(BadText(0, 0), Game.read, value)
                self.wrong(BadText(0, 0), Game, value)

    def test_each_item_in_turn(self):
        for text in (PURSE, STUCK, FULL):
            items = text.split(" ")
            self.assertIs(fault_of(items), None)
            self.try_text(items)
            for changed in variants(items, ODD_ITEMS):
                self.try_text(changed)

    def test_drawn(self):
        maker = random.Random(171)
        for _ in range(150):
            items = some_game(maker).split(" ")
            self.assertIs(fault_of(items), None, items)
            self.try_text(items)
            for _ in range(20):
                changed = list(items)
                changed[maker.randrange(len(items))] = maker.choice(ODD_ITEMS + items)
                self.try_text(changed)
                self.try_text(changed[:maker.randrange(len(items))])

    def test_short_time(self):
        begin = time.perf_counter()
        items = "numbers { x 0 0 0 } turn { home 0".split() + ["if", "not"] + ["not"] * 380 + ["x", "=", "0", "{", "}", "}"]
        for _ in range(100):
            self.try_text(items)
            self.try_text(["{"] * 10000)
            self.try_text(["numbers", "{"] * 200 + [""] * 10000)
        self.assertLess(time.perf_counter() - begin, 20)
