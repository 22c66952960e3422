"""The desk: its orders, its answers, its log."""

import random
import time
from fractions import Fraction

from nodice.boards import Board, shut_lot
from nodice.desk import Desk
from nodice.errors import BadNumber, BadText, HandError, Misfit, TooMany
from nodice.games import Game
from nodice.led import game_odds
from nodice.lines import Line
from nodice.looks import Look, window
from nodice.odds import odds
from nodice.reaches import reach_by, reach_of
from nodice.told_gaps import counts_of
from nodice.worlds import World
from nodice.worths import told_bound
from nodice.worths_of_looks import look_gap, look_worth
from tests.some_games import LADDER, PURSE, STUCK
from tests.support import NO_INTEGERS, NO_LISTS, Case, played, split_means
from tests.test_desk_lines import fault_of, values_of
from tests.test_pictures import drawn_picture

NEEDS = {
    **{word: "look" for word in ("reach", "worth", "off", "reaches", "adds")},
    **{word: "world" for word in ("play", "wins", "hands", "odds", "bound")},
}
BITS = "board 1 / " + " / ".join(f"0 {place + 1}" for place in range(14))
ORDERS = [
    "start 0 3 / 0", "start /", "start 2 5 0 7 -4 1 / 5 -5 0", "start 1 9 / 1", "start 0 4 /", "tick 0", "tick 1", "tick 2", "tick 5",
    "look 0 2 1 / 2 2 -1", "look 0 2 1", "look 1 1 3 / 0 4 1 / 2 4 -1", "look 0 1 2", "look 3 0 1", "board 2 / 1 3 / 2 0",
    "board 1 / 1 2 / 1", "board 3 / 3 1 / 2 4 0 / 5 0", BITS, "play 0", "play 0", "play 1", "play 2", "play 13", "play 59",
    "heap 0", "heap -1", "heap 2", "heap " + "9" * 140, "hand 0", "hand 1", "hand -5", "hand " + "-" + "9" * 140, "mean 0", "mean 1",
    "mean -2", "gap 0", "gap 1", "gap -1", "gap 10", "picture -3 4", "picture 0 0", "picture 5 124", "reach", "worth", "off", "reaches",
    "adds 0", "adds 1", "adds -2", "adds 99", "wins", "hands", "odds 0", "odds 1", "odds 8", "bound 0", "bound 2", f"game {PURSE}",
    f"game {LADDER}", f"game {STUCK}", "game numbers { x 0 9 0 } turn { dice 7 x up x 1 dice 9 x chance 1 1 { } else { } home 0 }",
    "game numbers { x 0 9 0 y 0 9 0 } turn { if x = 1 { home 0 } dice 7 x dice 9 y }", "undo", "undo", "undo", "undo", "",
    "tick", "tick 201", "tick -1", "start 0 1", "start 0 1 1 1 /", "look 0 2", "look", "board 1 / 3 / 0", "play 60", "play", "heap x",
    "picture 0 120", "worth 1", "odds 9", "bound", "game numbers", "undo 1", "hands ", "Undo", "log", "tick 196", "tick 200",
]


def written(number):
    number = Fraction(number)
    return f"{number.numerator}/{number.denominator}"


def row_of(pairs):
    return " ".join(f"{up}/{down}" for up, down in pairs)


class Replayed:
    """What a desk has that was told the orders of a log, all of them anew."""

    def __init__(self, log):
        self.heaps, self.lefts, self.tick, self.look, self.world = (), (), 0, None, None
        for order in log:
            word, *values = values_of(order.split(" "))
            if word == "start":
                (self.heaps, self.lefts), self.tick = values, 0
            elif word == "tick":
                self.tick += values[0]
            elif word == "look":
                self.look = values[0]
            elif word == "board":
                self.world = World(values[0], [0] * values[0].places)
            else:
                self.world.play(values[0], 10000)
        self.chips = self.left = None

    def line(self):
        """Chips by spot and the spots whose hands show to the left."""
        if self.chips is None and self.tick <= 12:
            self.chips, self.left = played(self.heaps, self.lefts, self.tick)
        elif self.chips is None:
            line = Line(self.heaps, self.lefts)
            line.forward(self.tick)
            self.chips, self.left = dict(line.heaps), line.lefts
        return self.chips, self.left

    def answer(self, order):
        """The answer, or the error that is raised."""
        fault = fault_of(order.split(" "))
        if fault is not None:
            return BadText(0, fault)
        word, *values = values_of(order.split(" "))
        if word in NEEDS and getattr(self, NEEDS[word]) is None:
            return Misfit(NEEDS[word])
        try:
            return getattr(self, "of_" + word)(*values)
        except HandError as error:
            return error

    def of_start(self, heaps, _):
        return str(sum(many for _, many in heaps))

    def of_tick(self, many):
        if self.tick + many > 200:
            raise TooMany("ticks", 200)
        return str(self.tick + many)

    def of_look(self, look):
        return row_of([reach_of(look)])

    def of_board(self, board):
        return str(board.places)

    def of_play(self, place):
        return str(self.world.copy().play(place, 10000))

    def of_heap(self, spot):
        return str(self.line()[0].get(spot, 0))

    def of_hand(self, spot):
        return "left" if spot in self.line()[1] else "right"

    def of_mean(self, spot):
        return written(split_means(self.heaps, self.tick).get(spot, 0))

    def of_gap(self, spot):
        return written(self.line()[0].get(spot, 0) - Fraction(self.of_mean(spot)))

    def of_picture(self, low, high):
        return drawn_picture(*self.line(), low, high)

    def of_reach(self):
        return row_of([reach_of(self.look)])

    def of_worth(self):
        return str(look_worth(self.look, self.heaps, self.lefts))

    def of_off(self):
        return row_of([look_gap(self.look, self.heaps, self.lefts)])

    def of_reaches(self):
        return row_of(reach_by(self.look, self.lefts))

    def of_adds(self, spot):
        return row_of([counts_of(self.look, self.heaps, self.lefts, spot)])

    def of_wins(self):
        return " ".join(map(str, self.world.wins))

    def of_hands(self):
        return " ".join(map(str, self.world.hands))

    def of_odds(self, home):
        if home >= self.world.board.homes:
            raise BadNumber("home")
        return "shut" if shut_lot(self.world.board) else row_of(odds(self.world.board, home).shares)

    def of_bound(self, home):
        return row_of([told_bound(self.world.board, home).total])

    def of_game(self, game):
        return row_of(game_odds(game))


class Desks(Case):
    def tell(self, desk, order):
        """Tell a desk an order and compare with all its log told anew."""
        log = desk.log
        if order == "undo":
            self.same(desk.told("undo"), log[-1] if log else "-")
            self.same(desk.log, log[:-1])
            return None
        wanted = Replayed(log).answer(order)
        if isinstance(wanted, HandError):
            self.wrong(wanted, desk.told, order)
            self.same(desk.log, log)
            return wanted
        self.same(desk.told(order), wanted)
        kept = order.split(" ")[0] in ("start", "tick", "look", "board", "play")
        self.same(desk.log, (*log, order) if kept else log)
        return wanted

    def test_drawn_orders(self):
        maker = random.Random(241)
        found = set()
        for _ in range(25):
            desk = Desk()
            for _ in range(60):
                order = maker.choice(ORDERS)
                wanted = self.tell(desk, order)
                found.add((order.split(" ")[0], wanted.__class__))
        for word in "start tick look board play heap hand mean gap picture worth off reaches adds wins hands odds bound game".split():
            self.assertIn((word, str), found)
        for word in "worth off adds reach reaches play wins hands odds bound game".split():
            self.assertIn((word, Misfit), found)
        for word, made in (("tick", TooMany), ("play", TooMany), ("game", TooMany), ("play", BadNumber), ("odds", BadNumber)):
            self.assertIn((word, made), found)

    def test_a_new_desk(self):
        for order in ORDERS:
            self.tell(Desk(), order)
        desk = Desk()
        self.same(desk.log, ())
        self.same(
            [desk.told(order) for order in ("heap 0", "hand 0", "mean 0", "gap 0", "picture -1 1", "tick 200", "heap 0", "undo", "undo")],
            ["0", "right", "0/1", "0/1", "...", "200", "0", "tick 200", "-"],
        )
        for order, part in (("worth", "look"), ("reaches", "look"), ("adds 0", "look"), ("play 0", "world"), ("odds 8", "world")):
            self.wrong(Misfit(part), desk.told, order)

    def test_order_of_errors(self):
        desk = Desk()
        self.wrong(BadText(0, 1), desk.told, "worth 1")
        self.wrong(BadText(0, 1), desk.told, "play 60")
        self.wrong(BadText(0, 1), desk.told, "odds 9")
        self.wrong(Misfit("world"), desk.told, "play 59")
        self.wrong(Misfit("world"), desk.told, "bound 8")
        desk.told("board 1 / 1 2 / 1")
        self.wrong(BadNumber("home"), desk.told, "bound 1")
        self.wrong(Misfit("board"), desk.told, "bound 0")
        self.same(desk.told("odds 0"), "shut")
        self.wrong(BadNumber("home"), desk.told, "odds 1")
        self.wrong(BadNumber("place"), desk.told, "play 2")
        self.wrong(TooMany("steps", 10000), desk.told, "play 0")
        self.same(desk.log, ("board 1 / 1 2 / 1",))
        desk.told("look 0 1 1")
        desk.told("start 0 1 /")
        for order in ("worth", "off", "adds 1"):
            self.wrong(Misfit("colour"), desk.told, order)
        self.same(desk.told("reaches"), row_of(reach_by(Look([(0, 1, 1)]), [])))
        for value in [*NO_INTEGERS, *NO_LISTS, b"undo", ["undo"], ("tick", 1)]:
            if not isinstance(value, str):
                self.wrong(BadText(0, 0), desk.told, value)
        self.same(len(desk.log), 3)

    def test_far_ticks(self):
        desk = Desk()
        for order in ("start 0 1000 2 17 / 1 3", "tick 100", "tick 99", "gap 1", "mean 1", "heap 0", "tick 2", "tick 1", "gap 0", "mean 0",
                      "tick 1", "tick 0", "picture -60 59", "heap 198", "mean 198", "undo", "undo", "undo", "gap 1", "tick 1", "undo",
                      "undo", "heap 2", "tick 100", "tick 1", "start 1 5 /", "tick 200", "tick 1", "undo", "tick 7", "undo", "undo",
                      "heap 0", "gap 0"):
            self.tell(desk, order)

    def test_undo(self):
        maker = random.Random(242)
        kept = [order for order in ORDERS if order.split(" ")[0] in ("start", "tick", "look", "board", "play")]
        asked = [order for order in ORDERS if order.split(" ")[0] not in ("start", "tick", "look", "board", "play", "undo")]
        for _ in range(12):
            desk, ahead = Desk(), []
            while len(desk.log) < 15:
                ahead.append((desk.log, [self.answer(desk, order) for order in asked]))
                many = len(desk.log)
                while len(desk.log) == many:
                    self.answer(desk, maker.choice(kept))
            while desk.log:
                log = desk.log
                if maker.random() < 0.5:
                    self.answer(desk, maker.choice(["tick 201", "play", "start 0 1", "worth 1"]))
                self.same(desk.told("undo"), log[-1])
                wanted = ahead.pop()
                self.same((desk.log, [self.answer(desk, order) for order in asked]), wanted)
            self.same([desk.told("undo"), desk.told("undo"), desk.log], ["-", "-", ()])

    def answer(self, desk, order):
        try:
            return desk.told(order)
        except HandError as error:
            return (error.__class__.__name__, vars(error))

    def test_undone_plays(self):
        desk = Desk()
        desk.told("board 2 / 1 3 / 2 0")
        plain = World(Board(2, [[1, 3], [2, 0]]), [0, 0])
        stood = []
        for number in range(200):
            stood.append((desk.told("wins"), desk.told("hands")))
            self.same(desk.told(f"play {number % 2}"), str(plain.play(number % 2, 10000)))
            self.same(desk.told("wins"), " ".join(map(str, plain.wins)))
        self.wrong(TooMany("walkers", 200), desk.told, "play 0")
        self.assertEqual(len(desk.log), 201)
        for number in range(199, -1, -1):
            self.same(desk.told("undo"), f"play {number % 2}")
            self.same((desk.told("wins"), desk.told("hands")), stood[number])
        # Walkers that were taken back make room again.
        for _ in range(200):
            desk.told("play 0")
        self.wrong(TooMany("walkers", 200), desk.told, "play 0")
        desk.told("board 2 / 1 3 / 2 0")
        self.same(desk.told("play 0"), "0")


class Twins(Case):
    def test_they_go_their_own_ways(self):
        desk = Desk()
        for order in ("start 0 5 / 0", "tick 3", "board 2 / 1 3 / 2 0", "play 0", "look 0 2 1"):
            desk.told(order)
        twin = desk.twin()
        self.assertIs(twin == desk, True)
        self.assertIs(twin.__class__, Desk)
        asked = ("picture -5 5", "wins", "hands", "reaches", "worth", "gap 1")
        wanted = [desk.told(order) for order in asked]
        for order in ("play 0", "tick 2", "undo", "undo", "undo", "undo", "start 1 1 /", "tick 9", "board 1 / 1"):
            twin.told(order)
            self.same([desk.told(order) for order in asked], wanted)
            self.assertIs(twin == desk, twin.log == desk.log)
        self.assertIs(twin == desk, False)
        log = twin.log
        self.same([desk.told("undo") for _ in range(3)], ["look 0 2 1", "play 0", "board 2 / 1 3 / 2 0"])
        self.same(twin.log, log)
        self.same(twin.told("heap 0"), "0")
        self.same(Desk().twin().told("undo"), "-")

    def test_equality(self):
        one, other = Desk(), Desk()
        self.assertIs(one == other, True)
        one.told("tick 1")
        self.assertIs(one == other, False)
        self.assertIs(one != other, True)
        other.told("heap 0")
        other.told("tick 1")
        self.assertIs(one == other, True)
        one.told("start 0 1 2 1 /")
        other.told("start 2 1 0 1 /")
        # Alike in all that they have, but not in their logs.
        self.assertIs(one == other, False)
        one.told("undo")
        other.told("undo")
        self.assertIs(one == other, True)
        for value in (None, True, (), "tick 1", ["tick 1"], one.log, Desk):
            self.assertIs(one == value, False)
            self.assertIs(one != value, True)


class Short(Case):
    def test_short_time(self):
        begin = time.perf_counter()
        desk = Desk()
        heaps = " ".join(f"{400 * spot} {10 ** 60 - spot}" for spot in range(60))
        desk.told(f"start {heaps} /")
        for _ in range(20):
            desk.told("tick 10")
            desk.told("gap 0")
            desk.told("picture 0 119")
        for _ in range(20):
            desk.told("undo")
        look = str(Look([(200 * k, 60, k + 1) for k in range(40)]))
        for order in (f"look {look}", "reach", "worth", "off", "reaches", "adds 0", f"look {window(0, 40, 60)}", "reaches", "off"):
            desk.told(order)
        desk.told("board 9 / " + " / ".join(["0 1 2 3 4 5 6 7 8 19 20 28"] * 20))
        for _ in range(10):
            desk.told("odds 8")
            desk.told("bound 0")
        self.assertLess(time.perf_counter() - begin, 20)

    def test_many_orders(self):
        begin = time.perf_counter()
        maker = random.Random(243)
        desk = Desk()
        desk.told("board 3 / " + " / ".join(" ".join(str(maker.randrange(63)) for _ in range(60)) for _ in range(60)))
        for number in range(200):
            desk.told(f"play {number % 60}")
            desk.told("start 0 99999 2 777 / 0")
        while desk.log:
            desk.told("undo")
            desk.told("picture -5 5")
        self.same(game_odds(Game(PURSE)), ((2, 3), (1, 3)))
        self.assertLess(time.perf_counter() - begin, 20)
