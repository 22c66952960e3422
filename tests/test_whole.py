"""The whole program: all papers, all errors, and games from their text to plays by hands."""

import random
import time
from fractions import Fraction

from nodice import errors
from nodice.check_gaps import shows_gap
from nodice.check_led import shows_led
from nodice.check_odds import shows_odds, shows_steps
from nodice.check_turns import shows_turns
from nodice.check_wishes import shows_start
from nodice.check_worst import shows_worst
from nodice.check_worths import shows_bound
from nodice.boards import Board, shut_lot
from nodice.errors import BadGame, BadNumber, HandError, Misfit, TooMany
from nodice.games import Game
from nodice.led import Led, game_odds, led
from nodice.looks import window
from nodice.odds import Odds, Shut, Steps, odds
from nodice.papers import Denial, Paper, fixed
from nodice.throws import Open, Over, outcomes
from nodice.told_gaps import Gap
from nodice.turns import Turns
from nodice.worlds import World
from nodice.worst import Worst
from nodice.worths import Bound, gap_after, kept, plays, told_bound
from tests.some_games import FULL, LADDER, PURSE, some_game, some_walk
from tests.support import ODD_PARTS, Case
from tests.test_led import led_by_hand

PAPERS = {
    Turns: "total picks sign", Gap: "gap chips", Worst: "heaps lefts", Odds: "home shares", Steps: "means",
    Bound: "home shares spans total", Over: "home turns", Led: "board standings",
}
DENIALS = {Shut: "lot", Open: "standing turns"}
CLASSES = {**PAPERS, **DENIALS}


class Papers(Case):
    def test_any_parts(self):
        maker = random.Random(261)
        for made, names in CLASSES.items():
            names = names.split()
            for _ in range(60):
                parts = [maker.choice([*ODD_PARTS, [1, [2, [3]]], object(), made, 10 ** 90]) for _ in names]
                paper = made(*parts)
                self.assertEqual(paper.word, made.__name__.lower())
                self.assertIs(paper.word.__class__, str)
                self.same(paper.parts, fixed(parts))
                for name, part in zip(names, parts):
                    self.same(getattr(paper, name), fixed(part))
                self.assertIs(bool(paper), made in PAPERS)
                again = made(**dict(zip(names, parts)))
                self.assertIs(paper == again, True)
                self.assertIs(paper != again, False)

    def test_bases(self):
        for made in PAPERS:
            self.assertEqual(made.__bases__, (Paper,))
        for made in DENIALS:
            self.assertEqual(made.__bases__, (Denial,))

    def test_equality(self):
        for made, names in CLASSES.items():
            many = len(names.split())
            for other in CLASSES:
                others = len(CLASSES[other].split())
                self.assertIs(made(*[0] * many) == other(*[0] * others), made is other)
            self.assertIs(made(*[[1]] * many) == made(*[(1,)] * many), True)
            self.assertIs(made(*[1] * many) == made(*[True] * many), True)
            for at in range(many):
                parts = [0] * many
                parts[at] = 1
                self.assertIs(made(*[0] * many) == made(*parts), False)
            word = made.__name__.lower()
            for value in (Paper(word, *[0] * many), Denial(word, *[0] * many), None, (0,) * many, word, made):
                self.assertIs(made(*[0] * many) == value, False)

    def test_lists_changed_afterwards(self):
        for made, names in CLASSES.items():
            inner = [1]
            parts = [[inner, 2] for _ in names.split()]
            paper = made(*parts)
            inner.append(3)
            parts[0].append(4)
            self.same(paper.parts, (((1,), 2),) * len(parts))
            for name in names.split():
                self.same(getattr(paper, name), ((1,), 2))

    def test_checks_take_any_value(self):
        purse = Board(2, [[1, 3], [2, 0]])
        values = [made(*[part] * len(names.split())) for made, names in CLASSES.items() for part in ODD_PARTS]
        for value in [*values, *ODD_PARTS, object(), Paper, {}, [[]], (1, 2)]:
            self.assertIs(shows_turns([(1, 1), (0, 1)], value), False)
            self.assertIs(shows_gap(window(0, 1, 2), [(0, 3)], [0], value), False)
            self.assertIs(shows_start([], [(0, 0)], 0, -2, 2, 2, value), False)
            self.assertIs(shows_worst(window(0, 1, 2), value), False)
            self.assertIs(shows_odds(purse, 0, value), False)
            self.assertIs(shows_steps(purse, value), False)
            self.assertIs(shows_bound(purse, 0, value), False)
            self.assertIs(shows_led(Game(PURSE), value), False)


class AllErrors(Case):
    def test_all_are_hand_errors(self):
        for name, error in vars(errors).items():
            if isinstance(error, type) and error is not HandError:
                self.assertEqual(error.__bases__, (HandError,), name)
                self.assertTrue(issubclass(error, ValueError))
        self.assertEqual(HandError.__bases__, (ValueError,))

    def test_fields_are_kept_as_passed(self):
        for call, wanted in (
            (lambda: Game(7), errors.BadText(0, 0)), (lambda: outcomes(7, None), BadGame("game")),
            (lambda: led(Game("numbers { x 0 99 0 } turn { up x 1 if x = 99 { home 0 } }")), TooMany("places", 60)),
            (lambda: World(Board(1, [[0]]), [0]).play(0, 77), TooMany("steps", 77)),
            (lambda: World(Board(1, [[0]]), [1]), BadNumber("hands")),
        ):
            self.wrong(wanted, call)
            with self.assertRaises(ValueError):
                call()


class GamesByHands(Case):
    def drawn(self, maker, many):
        found = [PURSE, LADDER]
        while len(found) < many:
            text = maker.choice([some_walk, some_walk, some_game])(maker)
            if not isinstance(led_by_hand(text), TooMany) and not shut_lot(led(Game(text)).board):
                found.append(text)
        return found

    def test_plays_on_led_boards(self):
        maker = random.Random(262)
        for text in self.drawn(maker, 40):
            game = Game(text)
            board = led(game).board
            shares = game_odds(game)
            for home in range(game.homes):
                bound = Fraction(*told_bound(board, home).total)
                self.same(odds(board, home).shares[0], shares[home])
                hands = [maker.randrange(len(row)) for row in board.rows]
                for many in (1, 10, 60):
                    homes = plays(board, hands, 0, many, 10000)
                    gap = homes.count(home) - many * Fraction(*shares[home])
                    self.assertLessEqual(abs(gap), bound)
                    self.assertEqual(Fraction(*gap_after(board, hands, 0, home, many)), gap)

    def test_what_is_kept_of_led_boards(self):
        maker = random.Random(263)
        for text in self.drawn(maker, 15):
            board = led(Game(text)).board
            world = World(board, [0] * board.places)
            for number in range(5):
                before = Fraction(*kept(world, 0))
                self.assertEqual(world.enter(0), number)
                self.assertEqual(Fraction(*kept(world, 0)), before + Fraction(*odds(board, 0).shares[0]))
                world.led(number, 10000)
                self.assertEqual(Fraction(*kept(world, 0)), before + Fraction(*odds(board, 0).shares[0]))


class ToldOtherwise(Case):
    """The same games by other names, numbers in another order, conditions turned about."""

    def renamed(self, text):
        new = {"x": "far", "y": "turned", "z": "die", "a": "x", "b": "y", "at": "spot", "purse": "purses", "abcdefgh": "h"}
        return " ".join(new.get(item, item) for item in text.split(" "))

    def with_nots(self, text):
        """`if COND { A } else { B }` as `if not COND { B } else { A }`, all the way in."""
        items = text.split(" ")
        start = items.index("turn") + 2
        return " ".join([*items[:start], *self.turned(items[start:-1]), "}"])

    def turned(self, items):
        found, at = [], 0
        while at < len(items):
            if items[at] != "if":
                found.append(items[at])
                at += 1
                continue
            begin = items.index("{", at)
            end = self.closing(items, begin)
            first, second = self.turned(items[begin + 1:end]), []
            cond, at = items[at + 1:begin], end + 1
            if items[at:at + 1] == ["else"]:
                end = self.closing(items, at + 1)
                second = self.turned(items[at + 2:end])
                at = end + 1
            found.extend(["if", "not", *cond, "{", *second, "}", "else", "{", *first, "}"])
        return found

    def closing(self, items, begin):
        opened = 0
        for at in range(begin, len(items)):
            opened += (items[at] == "{") - (items[at] == "}")
            if opened == 0:
                return at
        return None

    def test_the_same_outcomes(self):
        maker = random.Random(264)
        for text in [PURSE, LADDER, FULL, *[some_walk(maker) for _ in range(30)], *[some_game(maker) for _ in range(30)]]:
            game = Game(text)
            for other in (self.renamed(text), self.with_nots(text), self.with_nots(self.with_nots(text))):
                other = Game(other)
                self.assertIs(other == game, other.text == text)
                self.same((other.lows, other.highs, other.begins, other.homes), (game.lows, game.highs, game.begins, game.homes))
                for _ in range(6):
                    standing = [maker.randrange(low, high + 1) for low, high in zip(game.lows, game.highs)]
                    self.same(outcomes(other, standing), outcomes(game, standing))
                self.same(self.told(other), self.told(game))

    def told(self, game):
        try:
            paper = led(game)
            return (paper.parts[1], paper.board.rows, game_odds(game))
        except HandError as error:
            return (error.__class__.__name__, vars(error))

    def test_numbers_in_another_order(self):
        maker = random.Random(265)
        for text in [some_walk(maker) for _ in range(30)]:
            items = text.split(" ")
            other = Game(" ".join([*items[:2], *items[6:14], *items[2:6], *items[14:]]))
            game = Game(text)
            self.same(other.names, (*game.names[1:], game.names[0]))
            for _ in range(10):
                standing = tuple(maker.randrange(low, high + 1) for low, high in zip(game.lows, game.highs))
                later, homes = outcomes(game, standing)
                turned = tuple(sorted(((*at[1:], at[0]), share) for at, share in later))
                self.same(outcomes(other, (*standing[1:], standing[0])), (turned, homes))
            found, wanted = self.told(other), self.told(game)
            if isinstance(wanted[0], tuple):
                self.same(sorted(found[0]), sorted((*at[1:], at[0]) for at in wanted[0]))
                self.same(found[2], wanted[2])
            elif wanted[0] == "Misfit":
                self.same(found, wanted)


class Short(Case):
    def test_short_time(self):
        begin = time.perf_counter()
        # 20 places with rows of 12 entries, led, reckoned and played.
        game = Game("numbers { x 0 20 10 e 1 6 1 } turn { chance 1 1 { dice 6 e add x e } else { dice 6 e if e < 4 { down x 1 } else"
                    " { down x 2 } } set e 1 if x = 0 { home 0 } if x = 20 { home 1 } }")
        paper = led(game)
        self.assertEqual(paper.board.places, 19)
        self.assertIs(shows_led(game, paper), True)
        self.assertEqual(sum(Fraction(*share) for share in game_odds(game)), 1)
        told = told_bound(paper.board, 0)
        self.assertIs(shows_bound(paper.board, 0, told), True)
        self.assertEqual(len(plays(paper.board, [0] * 19, 0, 200, 10000)), 200)
        self.assertLessEqual(abs(Fraction(*gap_after(paper.board, [0] * 19, 0, 0, 200))), Fraction(*told.total))
        self.wrong(Misfit("game"), game_odds, Game("numbers { x 0 1 0 } turn { if x = 1 { home 0 } }"))
        self.assertLess(time.perf_counter() - begin, 20)
