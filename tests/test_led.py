"""Games led to boards, and their odds."""

import random
import time
from fractions import Fraction
from functools import lru_cache
from math import lcm

from nodice.boards import Board, shut_lot
from nodice.errors import BadGame, Misfit, TooMany
from nodice.games import Game
from nodice.led import Led, game_odds, led
from nodice.odds import odds, odds_from
from nodice.papers import Paper
from nodice.throws import outcomes
from tests.some_games import FULL, LADDER, PURSE, STUCK, Model, some_game, some_walk
from tests.support import Case, pair
from tests.test_dealt import is_even_by_counting
from tests.test_odds import comes_home
from tests.test_throws import NO_GAMES, WALK


@lru_cache(maxsize=None)
def led_by_hand(text):
    """Standings in order and the outcomes of each, or the error, against going through all throws."""
    model = Model(text)
    standings, rows = [model.begin], []
    for standing in standings:
        later, homes, ways = model.outcomes(standing)
        if ways > 400:
            return TooMany("ways", 400)
        if lcm(*[share.denominator for _, share in later + homes]) > 60:
            return TooMany("row", 60)
        for other, _ in later:
            if other not in standings:
                if len(standings) == 60:
                    return TooMany("places", 60)
                standings.append(other)
        rows.append((later, homes))
    return standings, rows


def wide(places, tail="if x = 0 { home 0 }"):
    """A game that comes to so many standings, one behind another."""
    return f"numbers {{ x 0 99 {places} }} turn {{ down x 1 {tail} }}"


class LedGames(Case):
    def try_game(self, text):
        game, wanted = Game(text), led_by_hand(text)
        if isinstance(wanted, TooMany):
            self.wrong(wanted, led, game)
            self.wrong(wanted, game_odds, game)
            return None
        standings, rows = wanted
        told = led(game)
        self.same(told.standings, tuple(standings))
        board = told.board
        self.assertIs(board.__class__, Board)
        self.assertEqual((board.places, board.homes), (len(standings), game.homes))
        for (later, homes), row in zip(rows, board.rows):
            entries = [standings.index(at) for at, _ in later] + [len(standings) + home for home, _ in homes]
            shares = [share for _, share in later + homes]
            self.assertEqual(len(row), lcm(*[share.denominator for share in shares]))
            self.assertEqual([Fraction(row.count(entry), len(row)) for entry in entries], shares)
            weights = [row.count(entry) for entry in entries]
            self.assertTrue(is_even_by_counting(weights, [entries.index(entry) for entry in row]))
        self.assertIs(led(game) == told, True)
        return told

    def test_against_going_through_all_throws(self):
        maker = random.Random(201)
        found = []
        for text in [PURSE, LADDER, STUCK, WALK.text, FULL, *[some_game(maker, 2) for _ in range(60)], *[some_walk(maker) for _ in range(100)]]:
            told = self.try_game(text)
            if told is None:
                found.append(None)
            else:
                board = told.board
                found.append(board.places)
                self.odds_too(Game(text), board)
        self.assertIn(None, found)
        self.assertGreater(len([many for many in found if many and many > 3]), 30)

    def odds_too(self, game, board):
        if shut_lot(board):
            self.wrong(Misfit("game"), game_odds, game)
            return
        found = game_odds(game=game)
        self.same(found, odds_from(board, 0))
        self.assertEqual(sum(Fraction(*share) for share in found), 1)
        self.assertEqual(len(found), game.homes)
        # The odds of the begin are the mean over its outcomes.
        standings = led(game).standings
        for home in range(game.homes):
            shares = odds(board, home).shares
            later, homes = outcomes(game, game.begins)
            total = sum((Fraction(*share) for at, share in homes if at == home), Fraction(0))
            total += sum(Fraction(*share) * Fraction(*shares[standings.index(at)]) for at, share in later)
            self.same(found[home], pair(total))

    def test_order_of_standings(self):
        # From 5 to 9 and 2; from 9 to 7 and 0; from 2 to 1.
        text = (
            "numbers { x 0 9 5 } turn { if x = 5 { chance 1 1 { set x 9 } else { set x 2 } } else { if x = 9 { chance 1 1 { set x 7 }"
            " else { set x 0 } } else { if x = 2 { set x 1 } else { home 1 } } } }"
        )
        told = led(Game(text))
        self.same(told.standings, ((5,), (2,), (9,), (1,), (0,), (7,)))
        self.assertEqual([sorted(row) for row in told.board.rows], [[1, 2], [3], [4, 5], [7], [7], [7]])
        self.same(game_odds(Game(text)), ((0, 1), (1, 1)))
        # Standings that stand at the begin and are come to again.
        text = "numbers { x 0 1 1 y 0 1 0 } turn { copy y x set x 0 if y = 0 { home 0 } chance 1 1 { set x 1 } else { } }"
        self.same(led(Game(text)).standings, ((1, 0), (0, 1), (1, 1)))

    def test_homes(self):
        told = led(Game("numbers { x 0 0 0 } turn { chance 1 2 { home 2 } else { home 5 } if x = 1 { home 8 } }"))
        self.same((told.board.homes, told.board.rows[0].count(3), len(told.board.rows[0])), (9, 1, 3))
        self.same(game_odds(Game("numbers { x 0 0 0 } turn { chance 1 2 { home 2 } else { home 0 } if x = 1 { home 3 } }")),
                  ((2, 3), (0, 1), (1, 3), (0, 1)))

    def test_most_places(self):
        for places in (1, 2, 59, 60, 61, 62, 90):
            told = self.try_game(wide(places))
            self.assertEqual(None if told is None else told.board.places, places if places <= 60 else None)
        self.same(game_odds(Game(wide(60))), ((1, 1),))
        # All at once.
        self.try_game("numbers { x 0 99 0 y 1 2 1 } turn { dice 10 x dice 2 y if x = 99 { home 0 } }")
        self.try_game("numbers { x 0 99 0 y 0 99 1 } turn { dice 10 x dice 6 y if x = 99 { home 0 } }")
        self.try_game("numbers { x 0 99 0 y 1 2 1 } turn { dice 12 x dice 5 y if x = 99 { home 0 } }")

    def test_most_entries(self):
        for deeds in (
            "dice 12 x dice 5 y", "dice 10 x dice 6 y", "dice 11 x dice 6 y", "dice 12 x dice 7 y set y 0", "dice 7 x dice 9 y set x 0 set y 0",
            "dice 7 x dice 8 y set x 0", "chance 1 6 { set x 1 } else { dice 9 y set x 2 }", "dice 6 x dice 10 x", "dice 9 x dice 7 x",
            "chance 1 9 { dice 6 x } else { set x 0 }", "chance 1 9 { dice 7 x } else { set x 0 }",
        ):
            self.try_game(f"numbers {{ x 0 99 0 y 0 99 0 }} turn {{ if x = 12 {{ home 0 }} {deeds} }}")

    def test_which_error_is_first(self):
        big = "dice 10 x dice 10 x dice 5 x"
        row = "dice 7 x dice 9 y"
        for deeds, wanted in (
            (f"{big} {row}", TooMany("ways", 400)), (f"{row} {big}", TooMany("ways", 400)), (row, TooMany("row", 60)),
            # At the begin one way; then, behind a step, too many ways, or too long a row, whatever comes then.
            (f"if x = 0 {{ up x 1 }} else {{ {big} }}", TooMany("ways", 400)),
            (f"if x = 0 {{ up x 1 }} else {{ {row} }}", TooMany("row", 60)),
            (f"if x = 0 {{ up x 1 }} else {{ if x = 1 {{ {row} }} else {{ {big} }} }}", TooMany("row", 60)),
            (f"if x = 0 {{ up x 1 }} else {{ if x = 1 {{ up x 1 {big} {row} }} else {{ {row} }} }}", TooMany("ways", 400)),
            # The first standing leads to 2 and 3: what is told of 2 shows first.
            (f"if x = 0 {{ chance 1 1 {{ set x 3 }} else {{ set x 2 }} }} else {{ if x = 2 {{ {big} }} else {{ {row} }} }}",
             TooMany("ways", 400)),
            (f"if x = 0 {{ chance 1 1 {{ set x 3 }} else {{ set x 2 }} }} else {{ if x = 3 {{ {big} }} else {{ {row} }} }}",
             TooMany("row", 60)),
            # Long before the 61st standing, or behind it.
            (f"up x 1 if x = 59 {{ {row} }}", TooMany("row", 60)), (f"up x 1 if x = 61 {{ {row} }}", TooMany("places", 60)),
            (f"up x 1 if x = 60 {{ {big} }}", TooMany("ways", 400)), (f"up x 1 if x = 60 {{ {row} }}", TooMany("row", 60)),
            (f"up x 1 if x = 60 {{ dice 2 y }}", TooMany("places", 60)), (f"up x 1 if x = 61 {{ {big} }}", TooMany("places", 60)),
            # 60 outcomes of the begin, and the begin itself: 61 standings, told ahead of what the second one does.
            ("if x < 1 { dice 12 x dice 5 y } else { dice 11 x dice 7 y }", TooMany("places", 60)),
            ("if x < 1 { dice 12 x dice 5 y } else { dice 12 x dice 10 y dice 4 y }", TooMany("places", 60)),
        ):
            text = f"numbers {{ x 0 99 0 y 0 99 0 }} turn {{ if x = 99 {{ home 0 }} {deeds} }}"
            found = led_by_hand(text)
            self.assertEqual((found.__class__, vars(found)), (wanted.__class__, vars(wanted)), text)
            self.try_game(text)

    def test_games_that_may_never_be_over(self):
        self.wrong(Misfit("game"), game_odds, Game(STUCK))
        # Over at once, or never.
        text = "numbers { x 0 2 0 } turn { if x = 0 { chance 1 1 { home 0 } else { set x 1 } } }"
        self.assertEqual(shut_lot(self.try_game(text).board), (1,))
        self.wrong(Misfit("game"), game_odds, Game(text))
        # Sooner or later over, though it may last.
        text = "numbers { x 0 1 0 } turn { chance 9 1 { } else { home 0 } }"
        self.same(game_odds(Game(text)), ((1, 1),))
        # A standing without an end that cannot be come to is no matter.
        text = "numbers { x 0 2 0 } turn { if x = 0 { home 0 } }"
        self.same(game_odds(Game(text)), ((1, 1),))
        # Led's errors are ahead of it.
        text = "numbers { x 0 9 0 y 0 9 0 } turn { if x = 8 { home 0 } dice 7 x dice 9 y }"
        self.assertTrue(isinstance(led_by_hand(text), TooMany))
        self.try_game(text)

    def test_papers(self):
        told = led(Game(PURSE))
        self.same((told.word, told.standings, bool(told)), ("led", ((1,), (2,)), True))
        self.assertIs(told.parts[0], told.board)
        self.same(told.parts[1], told.standings)
        self.assertEqual((told.__class__, Led.__bases__), (Led, (Paper,)))
        self.assertIs(told == Led(standings=[[1], [2]], board=Board(told.board.homes, told.board.rows)), True)
        self.assertIs(told == led(Game(LADDER)), False)
        self.same(Led([1], {}).parts, ((1,), {}))

    def test_wrong_values(self):
        for value in NO_GAMES:
            self.wrong(BadGame("game"), led, value)
            self.wrong(BadGame("game"), game_odds, value)

    def test_every_place_is_come_to(self):
        maker = random.Random(202)
        for _ in range(60):
            text = some_walk(maker)
            if not isinstance(led_by_hand(text), TooMany):
                board = led(Game(text)).board
                seen = {0}
                for _ in range(board.places):
                    seen |= {entry for place in seen for entry in board.rows[place] if entry < board.places}
                self.assertEqual(seen, set(range(board.places)))
                shut = [place for place in range(board.places) if not comes_home(board, place)]
                self.assertEqual(tuple(shut), shut_lot(board))

    def test_short_time(self):
        begin = time.perf_counter()
        # 60 places with rows of 60 entries, 360 ways from each; then more than 100 deeds.
        text = "numbers { x 0 10 0 y 1 6 1 z 1 6 1 } turn { dice 10 x down x 1 dice 6 z dice 6 y " + "copy z y " * 110
        game = Game(text + "set z 1 if x = 99 { home 0 } }")
        told = led(game)
        self.assertEqual((told.board.places, {len(row) for row in told.board.rows}), (60, {60}))
        self.wrong(Misfit("game"), game_odds, game)
        game = Game("numbers { x 0 19 9 } turn { chance 5 7 { up x 1 } else { down x 1 } if x = 0 { home 0 } if x = 19 { home 1 } }")
        self.assertEqual(led(game).board.places, 18)
        self.assertEqual(len(game_odds(game)), 2)
        game = Game("numbers { x 0 19 0 eyes 1 12 1 } turn { dice 12 eyes add x eyes set eyes 1 if x = 19 { home 0 } }")
        self.same(game_odds(game), ((1, 1),))
        self.assertLess(time.perf_counter() - begin, 20)
