"""Outcomes of turns, and games with told throws."""

import random
import time
from fractions import Fraction
from itertools import product

from nodice.errors import BadGame, BadNumber, Misfit, TooMany
from nodice.games import Game
from nodice.papers import Denial, Paper
from nodice.throws import Open, Over, outcomes, told
from tests.some_games import FULL, LADDER, PURSE, Model, some_game, some_walk
from tests.support import NO_INTEGERS, NO_LISTS, Case, pair

NO_GAMES = [None, True, 0, PURSE, [], (PURSE,), {}, Game, 1.5]
# No throw at all, one, or two: as x stands.
WALK = Game(
    "numbers { x 0 9 0 y 1 6 1 } turn { if x = 0 { up x 1 } else { if x < 5 { dice 3 y add x y } else { chance 2 3"
    " { home 1 } else { dice 2 y set x 0 if y = 2 { home 0 } } } } }"
)


def standings_of(model, most=400):
    rows = [range(low, high + 1) for low, high in model.bounds.values()]
    found = list(product(*rows))
    return found if len(found) <= most else found[::len(found) // most + 1]


class Outcomes(Case):
    def test_going_through_all_throws(self):
        maker = random.Random(181)
        for text in [PURSE, LADDER, WALK.text, *[some_game(maker) for _ in range(120)], *[some_walk(maker) for _ in range(40)]]:
            game, model = Game(text), Model(text)
            for standing in standings_of(model, 12):
                standings, homes, ways = model.outcomes(standing)
                self.assertLessEqual(ways, 400)
                wanted = (
                    tuple([(outcome, pair(share)) for outcome, share in standings]),
                    tuple([(home, pair(share)) for home, share in homes]),
                )
                self.same(outcomes(game, standing), wanted)
                self.same(outcomes(game=game, standing=list(standing)), wanted)
                self.assertEqual(sum(Fraction(*share) for row in wanted for _, share in row), 1)

    def test_each_deed(self):
        for deeds, standing, wanted in (
            ("set x 3", (0, 0), (3, 0)), ("set x 99", (0, 0), (5, 0)), ("set x -99", (0, 0), (-5, 0)),
            ("up x 4", (1, 0), (5, 0)), ("up x 5", (1, 0), (5, 0)), ("up x 99", (-5, 0), (5, 0)), ("up x 1", (5, 0), (5, 0)),
            ("down x 6", (1, 0), (-5, 0)), ("down x 7", (1, 0), (-5, 0)), ("down x 99", (5, 0), (-5, 0)),
            ("copy x y", (1, 9), (5, 9)), ("copy x y", (1, -3), (-3, -3)), ("copy x x", (1, 0), (1, 0)),
            ("copy x y copy y x", (1, 9), (5, 5)), ("add x y", (1, 3), (4, 3)), ("add x y", (1, -3), (-2, -3)),
            ("add x y", (1, -9), (-5, -9)), ("add x x", (3, 0), (5, 0)), ("add x x", (-2, 0), (-4, 0)), ("add y x", (5, 9), (5, 9)),
            ("if x = 1 { up y 1 }", (1, 0), (1, 1)), ("if x = 2 { up y 1 } else { up y 2 }", (1, 0), (1, 2)),
            ("if not x = 1 { up y 1 }", (1, 0), (1, 0)), ("if not not x = 1 { up y 1 }", (1, 0), (1, 1)),
            ("if x < y { up y 1 }", (1, 2), (1, 3)), ("if x < y { up y 1 }", (1, 1), (1, 1)),
            ("if not x < y { up y 1 }", (1, 1), (1, 2)), ("if x = y { up y 1 }", (1, 1), (1, 2)),
            ("if y < -3 { set x 1 }", (0, -4), (1, -4)), ("if y < -3 { set x 1 }", (0, -3), (0, -3)),
            ("if x < x { set x 1 } else { set x 2 }", (0, 0), (2, 0)), ("", (4, -9), (4, -9)),
        ):
            game = Game(f"numbers {{ x -5 5 0 y -9 9 0 z 0 1 0 }} turn {{ {deeds} if z = 1 {{ home 8 }} }}".replace("  ", " "))
            self.same(outcomes(game, (*standing, 0)), ((((*wanted, 0), (1, 1)),), ()))
            self.same(outcomes(game, (*standing, 1)), ((), ((8, (1, 1)),)))

    def test_any_names(self):
        # Names that are words elsewhere in the program, or begin with words of the language.
        for one, other in (("leap", "name"), ("homes", "nots"), ("ups", "turns"), ("dic", "chances"), ("true", "none")):
            text = (
                f"numbers {{ {one} 0 9 1 {other} 0 9 2 }} turn {{ if {one} = {other} {{ home 0 }} else {{ if not {other} < {one}"
                f" {{ up {one} 1 }} }} copy {other} {one} dice 2 {one} }}"
            )
            for standing in product(range(10), repeat=2):
                standings, homes, _ = Model(text).outcomes(standing)
                self.assertEqual(
                    outcomes(Game(text), standing),
                    (tuple([(at, pair(share)) for at, share in standings]), tuple([(at, pair(share)) for at, share in homes])),
                )

    def test_shares(self):
        for first in (1, 4, 9):
            for second in (1, 5, 9):
                game = Game(f"numbers {{ x 0 1 0 }} turn {{ chance {first} {second} {{ set x 1 }} else {{ home 2 }} }}")
                whole = first + second
                self.same(outcomes(game, [0]), ((((1,), pair(Fraction(first, whole))),), ((2, pair(Fraction(second, whole))),)))
        for sides in range(2, 13):
            game = Game(f"numbers {{ x 0 99 0 }} turn {{ dice {sides} x if x = 1 {{ home 0 }} }}")
            self.same(outcomes(game, [7]), (tuple([((k,), (1, sides)) for k in range(2, sides + 1)]), ((0, (1, sides)),)))
            # The number stands at the nearer one of its bounds.
            game = Game(f"numbers {{ x 3 4 3 }} turn {{ dice {sides} x if x = 0 {{ home 0 }} }}")
            wanted = [((3,), Fraction(min(3, sides), sides)), ((4,), Fraction(sides - 3, sides))]
            self.same(outcomes(game, [3])[0], tuple([(at, pair(share)) for at, share in wanted if share > 0]))

    def test_ways_that_come_to_the_same(self):
        game = Game("numbers { x 0 9 0 y 0 9 0 } turn { dice 6 x dice 6 y add x y set y 0 if x = 9 { home 0 } if x < 4 { home 0 } }")
        found = outcomes(game, (0, 0))
        self.same(found[0], tuple([((x, 0), pair(Fraction(6 - abs(7 - x), 36))) for x in range(4, 9)]))
        self.same(found[1], ((0, pair(Fraction(1 + 2 + 4 + 3 + 2 + 1, 36))),))

    def test_a_home_ends_the_turn(self):
        # What stands behind it is not done: no throw, no other home.
        for deeds in (
            "home 3 home 4 dice 6 x", "if x = 0 { home 3 set x 1 } dice 6 x home 4", "if x = 0 { if x < 1 { home 3 } } home 0",
            "chance 1 1 { home 3 } else { if not x = 1 { home 3 } dice 12 x } chance 1 1 { } else { home 0 }",
        ):
            game = Game(f"numbers {{ x 0 9 0 }} turn {{ {deeds} }}")
            self.same(outcomes(game, [0]), ((), ((3, (1, 1)),)))
        game = Game("numbers { x 0 9 0 } turn { chance 1 2 { home 1 } else { up x 1 } dice 2 x }")
        self.same(outcomes(game, [5]), ((((1,), (1, 3)), ((2,), (1, 3))), ((1, (1, 3)),)))

    def test_wrong_values(self):
        for value in NO_GAMES:
            self.wrong(BadGame("game"), outcomes, value, None)
        game = Game("numbers { x -2 2 0 y 5 6 5 } turn { home 0 }")
        for value in [
            *NO_LISTS, [], [0], [0, 5, 0], [0, 4], [0, 7], [-3, 5], [3, 5], [5, 0], [[0, 5]], "05", {0: 5, 5: 0},
            *[[value, 5] for value in NO_INTEGERS], *[(0, value) for value in NO_INTEGERS], [10 ** 70, 5],
        ]:
            self.wrong(BadNumber("standing"), outcomes, game, value)
        for standing in ((-2, 5), [2, 6], (0, 5)):
            self.same(outcomes(game, standing), ((), ((0, (1, 1)),)))


class ManyWays(Case):
    def deeds(self, text, standing=(0,)):
        return outcomes(Game(f"numbers {{ x 0 9 0 }} turn {{ {text} if x = 0 {{ home 0 }} }}"), standing)

    def test_just_so_many(self):
        # 400 is 10 times 10 times 4; all of them come to the same outcome, or to unlike ones.
        for last, wanted in (("set x 1", ((((1,), (1, 1)),), ())), ("home 3", ((), ((3, (1, 1)),)))):
            self.same(self.deeds(f"dice 10 x dice 10 x dice 4 x {last}"), wanted)
            self.same(self.deeds(f"chance 1 1 {{ dice 2 x }} else {{ dice 2 x }} dice 10 x dice 10 x {last}"), wanted)
            self.wrong(TooMany("ways", 400), self.deeds, f"dice 10 x dice 10 x dice 4 x chance 1 9 {{ }} else {{ }} {last}")
            for deeds in (
                "chance 1 1 { dice 10 x dice 10 x dice 4 x } else { }", "chance 1 1 { } else { dice 10 x dice 10 x dice 4 x }",
                "dice 10 x dice 10 x dice 4 x if x = 1 { chance 1 1 { } else { } }", "dice 11 x dice 10 x dice 4 x",
                "dice 10 x dice 5 x dice 8 x if x = 8 { chance 9 1 { } else { } }",
            ):
                self.wrong(TooMany("ways", 400), self.deeds, f"{deeds} {last}")
        # 399 and two more, one more.
        self.wrong(TooMany("ways", 400), self.deeds, "chance 1 1 { dice 7 x dice 3 x dice 10 x if x = 1 { dice 10 x } } else { "
                   "dice 2 x } home 0")
        self.same(self.deeds("chance 1 1 { dice 7 x dice 5 x dice 11 x } else { dice 3 x dice 5 x } home 0")[1], ((0, (1, 1)),))
        self.wrong(TooMany("ways", 400), self.deeds, "chance 1 1 { dice 7 x dice 5 x dice 11 x } else { dice 4 x dice 4 x } home 0")

    def test_conditions_leave_dice_out(self):
        text = "if x = 9 { dice 12 x dice 12 x dice 3 x } dice 4 x"
        self.assertEqual(len(self.deeds(text, (8,))[0]), 4)
        self.wrong(TooMany("ways", 400), self.deeds, text, (9,))
        text = "dice 9 x if x = 9 { dice 12 x dice 12 x dice 3 x set x 9 }"
        self.wrong(TooMany("ways", 400), self.deeds, text)
        text = "dice 9 x if x = 9 { dice 12 x dice 8 x dice 4 x set x 9 }"
        self.assertEqual(len(self.deeds(text)[0]), 9)
        # 8 and 392: the last die but one has seven sides, the last one seven, and so eight times.
        self.same(self.deeds("dice 9 x if x = 9 { dice 7 x dice 7 x dice 8 x set x 9 }")[0][8], ((9,), (1, 9)))
        self.wrong(TooMany("ways", 400), self.deeds, "dice 10 x if x = 9 { dice 7 x dice 7 x dice 8 x set x 9 }")

    def test_very_many(self):
        begin = time.perf_counter()
        for deeds in (
            "dice 12 x " * 120, "chance 9 9 { } else { } " * 45, "dice 2 x " * 120, "chance 1 1 { dice 12 x } else { dice 2 x } " * 27,
        ):
            for _ in range(20):
                self.wrong(TooMany("ways", 400), self.deeds, deeds.strip())
        # One way through many chances: the others are over at once.
        deeds = "chance 9 9 { home 0 } else { } " * 38
        found = self.deeds(deeds.strip())
        self.same(found[1], ((0, (1, 1)),))
        self.assertLess(time.perf_counter() - begin, 20)

    def test_short_time(self):
        begin = time.perf_counter()
        game = Game("numbers { a 0 99 0 b 0 99 0 c 0 99 0 } turn { dice 10 a dice 10 b dice 4 c " + "up c 1 " * 115 +
                    "if a = 11 { home 0 } }")
        for _ in range(30):
            self.assertEqual(len(outcomes(game, (0, 0, 0))[0]), 100)
        self.assertLess(time.perf_counter() - begin, 20)


class Told(Case):
    def test_one_turn_with_each_row_of_throws(self):
        maker = random.Random(182)
        for text in [PURSE, LADDER, WALK.text, *[some_game(maker) for _ in range(80)], *[some_walk(maker) for _ in range(40)]]:
            game, model = Game(text), Model(text)
            rows = list(model.all_throws(model.begin))
            for outcome, _, throws, _ in maker.sample(rows, min(len(rows), 30)):
                found = told(game, [throws])
                wanted = Over(outcome[1], 1) if outcome[:1] == ("home",) else Open(outcome, 1)
                self.same((found.__class__, found.parts), (wanted.__class__, wanted.parts))
                for others in ([*throws, 1], throws[:-1], [*throws, 18]):
                    if others != throws:
                        self.wrong(Misfit("throws"), told, game, [others])

    def test_turn_by_turn(self):
        maker = random.Random(183)
        over = 0
        for text in [PURSE, LADDER, WALK.text, FULL, *[some_game(maker) for _ in range(80)], *[some_walk(maker) for _ in range(60)]]:
            game, model = Game(text), Model(text)
            standing, throws, home = model.begin, [], None
            while home is None and len(throws) < 8:
                found = told(game=game, throws=throws)
                self.same((found.__class__, found.parts, bool(found)), (Open, (standing, len(throws)), False))
                standing, home, row = self.drawn_turn(maker, model, standing)
                throws.append(maker.choice([row, tuple(row)]))
            found = told(game, tuple(throws))
            if home is not None:
                over += 1
                self.same((found.__class__, found.parts, bool(found)), (Over, (home, len(throws)), True))
                for more in ([], [1], ()):
                    self.wrong(Misfit("throws"), told, game, [*throws, more])
        self.assertGreater(over, 40)

    def drawn_turn(self, maker, model, standing):
        values, home, throws = dict(zip(model.bounds, standing)), None, []
        ahead = list(model.deeds)
        while ahead and home is None:
            deed = ahead.pop(0)
            behind, end, _, thrown, _ = maker.choice(list(model.one(deed, values)))
            values, home, throws = behind, end, throws + thrown
        return tuple(values.values()), home, throws

    def test_throws_too_great(self):
        for sides in range(2, 13):
            game = Game(f"numbers {{ x 0 99 0 }} turn {{ dice {sides} x if x = 99 {{ home 0 }} }}")
            for throw in range(1, 19):
                if throw <= sides:
                    self.same(told(game, [[throw]]).parts, ((throw,), 1))
                else:
                    self.wrong(Misfit("throws"), told, game, [[throw]])
                    self.wrong(Misfit("throws"), told, game, [[1], [throw]])
        for first in range(1, 10):
            for second in range(1, 10):
                game = Game(f"numbers {{ x 0 9 0 }} turn {{ chance {first} {second} {{ home 1 }} else {{ home 2 }} }}")
                for throw in range(1, 19):
                    if throw <= first + second:
                        self.same(told(game, [[throw]]).home, 1 if throw <= first else 2)
                    else:
                        self.wrong(Misfit("throws"), told, game, [[throw]])

    def test_papers(self):
        over, still = told(Game(PURSE), [[1], [1]]), told(Game(PURSE), [[1], [2]])
        self.same((over.word, over.parts, over.home, over.turns, bool(over)), ("over", (1, 2), 1, 2, True))
        self.same((still.word, still.parts, still.standing, still.turns, bool(still)), ("open", ((1,), 2), (1,), 2, False))
        self.assertEqual((Over.__bases__, Open.__bases__), ((Paper,), (Denial,)))
        self.assertIs(over == Over(turns=2, home=1), True)
        self.assertIs(still == Open(turns=2, standing=[1]), True)
        self.assertIs(still == over, False)
        self.assertIs(Over((1,), 2) == Open((1,), 2), False)
        self.same((Open([[1]], {}).standing, Over(None, [2]).turns), (((1,),), (2,)))

    def test_wrong_values(self):
        game = Game(PURSE)
        for value in NO_GAMES:
            self.wrong(BadGame("game"), told, value, None)
        for value in [
            *NO_LISTS, [1], [[1], 1], [None], ["1"], [{1: 1}], [[[1]]], [[1], [0]], [[1], [19]], [[-1]], [[10 ** 70]],
            *[[[value]] for value in NO_INTEGERS], *[[[1], [1, value]] for value in NO_INTEGERS],
            [[1]] * 201, [[]] * 201, [[1] * 401], [[1], [1] * 401], [[1], [1], [0]],
        ]:
            self.wrong(BadNumber("throws"), told, game, value)
        for value in ([[]], [[1, 1]], [[3]], [[18]], [[1] * 400], [[1], []], [[1], [1], [1]], [[1]] * 200, [[1], [1], []]):
            self.wrong(Misfit("throws"), told, game, value)

    def test_most_turns_and_throws(self):
        game = Game(PURSE)
        self.same(told(game, [[1], [2]] * 100).parts, ((1,), 200))
        self.same(told(game, [[1], [2]] * 99 + [[1], [1]]).parts, (1, 200))
        self.wrong(BadNumber("throws"), told, game, [[1], [2]] * 100 + [[1]])
        text = "numbers { x 0 9 0 } turn { " + "dice 2 x " * 127 + "if x = 9 { home 0 } }"
        self.same(told(Game(text), [[1] * 126 + [2]]).parts, ((2,), 1))
        self.wrong(Misfit("throws"), told, Game(text), [[1] * 400])
        text = "numbers { x 0 9 0 } turn { if x = 9 { home 0 } up x 1 }"
        self.same(told(Game(text), [[]] * 9).parts, ((9,), 9))
        self.same(told(Game(text), [[]] * 10).parts, (0, 10))
        self.wrong(Misfit("throws"), told, Game(text), [[]] * 11)
        self.wrong(Misfit("throws"), told, Game(text), [[]] * 200)

    def test_short_time(self):
        begin = time.perf_counter()
        text = "numbers { x 0 9 0 } turn { " + "dice 12 x " * 127 + "if x = 0 { home 0 } }"
        for _ in range(5):
            self.same(told(Game(text), [[12] * 126 + [7]] * 200).parts, ((7,), 200))
        self.assertLess(time.perf_counter() - begin, 20)
