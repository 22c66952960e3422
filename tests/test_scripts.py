"""Lists of orders."""

import random
import time

from nodice.desk import Desk
from nodice.errors import BadNumber, BadPaper, BadText, HandError, Misfit, TooMany
from nodice.scripts import answers
from tests.some_games import PURSE, STUCK
from tests.support import NO_INTEGERS, NO_LISTS, Case
from tests.test_desk import ORDERS


def told_by_hand(orders):
    desk, found = Desk(), []
    for order in orders:
        try:
            found.append(desk.told(order))
        except BadText as error:
            found.append(f"! BadText {error.line} {error.item}")
        except TooMany as error:
            found.append(f"! TooMany {error.what} {error.most}")
        except HandError as error:
            found.append(f"! {error.__class__.__name__} {error.part}")
    return tuple(found)


class Answers(Case):
    def test_drawn(self):
        maker = random.Random(251)
        for many in (0, 1, 2, 20, 100, 199, 200):
            orders = [maker.choice([*ORDERS, None, 5, b"undo", [], ("undo",)]) for _ in range(many)]
            wanted = told_by_hand(orders)
            self.same(answers(orders), wanted)
            self.same(answers(orders=tuple(orders)), wanted)
            self.assertEqual(len(wanted), many)

    def test_each_error(self):
        too_many_ways = "game numbers { x 0 9 0 } turn { dice 12 x dice 12 x dice 3 x if x = 9 { home 0 } }"
        for orders, wanted in (
            ([""], "! BadText 0 0"), (["heap"], "! BadText 0 1"), (["start 0 1 1 1 /"], "! BadText 0 3"), (["reach"], "! Misfit look"),
            (["play 0"], "! Misfit world"), (["tick 200", "tick 1"], "! TooMany ticks 200"), (["look 0 1 1", "start 0 1 /", "off"], "! Misfit colour"),
            (["board 1 / 0", "odds 1"], "! BadNumber home"), (["board 1 / 0", "bound 0"], "! Misfit board"),
            (["board 1 / 0", "play 1"], "! BadNumber place"), (["board 1 / 0", "play 0"], "! TooMany steps 10000"),
            ([f"game {STUCK}"], "! Misfit game"), ([too_many_ways], "! TooMany ways 400"),
            (["game numbers { x 0 9 0 } turn { dice 7 x dice 9 x chance 1 6 { } else { } home 0 }"], "1/1"),
            (["game numbers { x 0 9 0 } turn { dice 7 x chance 1 8 { set x 0 } else { } if x = 9 { home 0 } }"], "! TooMany row 60"),
            (["game numbers { x 0 99 0 } turn { up x 1 if x = 99 { home 0 } }"], "! TooMany places 60"),
            (["board 1 / 1", *["play 0"] * 198, "play 0"], "0"), ([f"game {PURSE}"], "2/3 1/3"), ([None], "! BadText 0 0"),
        ):
            self.same(answers(orders)[-1], wanted)
            self.same(answers(orders), told_by_hand(orders))

    def test_a_new_desk_each_time(self):
        self.same(answers(["start 0 3 /", "tick 1"]), ("3", "1"))
        self.same(answers(["heap 0", "undo", "tick 0"]), ("0", "-", "0"))
        self.same(answers([]), ())
        self.same(answers(()), ())

    def test_values_of_all_kinds(self):
        values = [*NO_INTEGERS, *NO_LISTS, object(), Desk(), answers, 1.5, "undo"]
        wanted = tuple("! BadText 0 0" if value != "undo" else "-" for value in values)
        self.same(answers(values), wanted)

    def test_wrong_values(self):
        for value in [*NO_LISTS, {"undo"}, {"undo": 1}, Desk(), ["undo"] * 201, ("undo",) * 201, [None] * 201]:
            self.wrong(BadPaper("orders"), answers, value)
        self.same(answers(["undo"] * 200), ("-",) * 200)
        self.same(answers((None,) * 200), ("! BadText 0 0",) * 200)

    def test_other_errors_are_told_by_no_desk(self):
        made = set()
        for order in ORDERS:
            desk = Desk()
            for ahead in ("start 0 3 / 0", "look 0 1 1", "board 2 / 1 3 / 2 0"):
                desk.told(ahead)
                try:
                    desk.told(order)
                except HandError as error:
                    made.add(error.__class__)
        self.assertLessEqual(made, {BadText, BadNumber, Misfit, TooMany})

    def test_short_time(self):
        begin = time.perf_counter()
        board = "board 9 / " + " / ".join(["0 1 2 3 4 5 6 7 8 19 20 28"] * 20)
        found = answers([board, *[f"play {number % 20}" for number in range(99)], *["undo"] * 100])
        self.same(found[-1], board)
        answers(["start 0 5 /", *["tick 1"] * 199])
        answers([f"game {PURSE}"] * 200)
        answers(["start " + "0 1" + " / 0", "look " + " / ".join(f"{2 * k} 60 1" for k in range(40)), *["reach"] * 50])
        self.assertLess(time.perf_counter() - begin, 20)
