"""Whether a Led is right."""

import random
import time
from fractions import Fraction
from itertools import product

from nodice.boards import Board
from nodice.check_led import shows_led
from nodice.errors import BadGame, TooMany
from nodice.games import Game
from nodice.led import Led, led
from nodice.odds import Steps, odds
from tests.some_games import FULL, LADDER, PURSE, STUCK, some_walk
from tests.support import Case, changed, no_papers, plain
from tests.test_dealt import is_even_by_counting
from tests.test_led import led_by_hand
from tests.test_throws import NO_GAMES


def is_led(text, board, standings):
    """Whether a board and standings are right, by going through all throws and by counting."""
    wanted, rows = led_by_hand(text)
    if not isinstance(standings, (list, tuple)) or plain(list(standings)) != plain(wanted):
        return False
    if (board.homes, board.places) != (Game(text).homes, len(wanted)):
        return False
    for (later, homes), row in zip(rows, board.rows):
        shares = {wanted.index(at): share for at, share in later}
        shares.update({len(wanted) + home: share for home, share in homes})
        if {entry: Fraction(row.count(entry), len(row)) for entry in row} != shares:
            return False
        entries = sorted(shares)
        if not is_even_by_counting([row.count(entry) for entry in entries], [entries.index(entry) for entry in row]):
            return False
    return True


class ShowsLed(Case):
    def try_rows(self, text, rows, standings=None, homes=None):
        game = Game(text)
        standings = led(game).standings if standings is None else standings
        try:
            board = Board(game.homes if homes is None else homes, rows)
        except ValueError:
            return None
        wanted = is_led(text, board, standings)
        self.assertIs(shows_led(game, Led(board, standings)), wanted, (rows, standings))
        return wanted

    def test_told(self):
        maker = random.Random(211)
        for text in [PURSE, LADDER, STUCK, FULL, *[some_walk(maker) for _ in range(40)]]:
            if isinstance(led_by_hand(text), TooMany):
                continue
            told = led(Game(text))
            self.assertIs(shows_led(Game(text), told), True)
            by_hand = Led([told.board][0], [list(standing) for standing in told.standings])
            self.assertIs(shows_led(game=Game(text), value=by_hand), True)
            again = Board(told.board.homes, [list(row) for row in told.board.rows])
            self.assertIs(shows_led(Game(text), Led(board=again, standings=told.standings)), True)

    def test_rows_changed(self):
        maker = random.Random(212)
        found = []
        for text in [PURSE, LADDER, *[some_walk(maker) for _ in range(10)]]:
            if isinstance(led_by_hand(text), TooMany):
                continue
            rows = [list(row) for row in led(Game(text)).board.rows]
            for at, row in enumerate(rows):
                one, other = maker.randrange(len(row)), maker.randrange(len(row))
                exchanged = list(row)
                exchanged[one], exchanged[other] = row[other], row[one]
                for new in (
                    maker.sample(row, len(row)), row[::-1], row * 2, row * 3, sorted(row), sorted(row * 2), exchanged, row + row[:1],
                    row[:-1], row[1:], row[1:] + row[:1], row + row[::-1], [*row[:one], maker.randrange(len(rows) + 3), *row[one + 1:]],
                    [entry for entry in row for _ in range(2)], row + [len(rows)], [0], [len(rows)], row * (60 // len(row)),
                ):
                    if new:
                        found.append(self.try_rows(text, [*rows[:at], new, *rows[at + 1:]]))
            found.append(self.try_rows(text, rows[::-1]))
            found.append(self.try_rows(text, rows[:-1]))
            found.append(self.try_rows(text, rows + rows[:1]))
            found.append(self.try_rows(text, [maker.sample(row * 2, 2 * len(row)) for row in rows]))
        self.assertGreater(found.count(True), 50)
        self.assertGreater(found.count(False), 50)

    def test_all_rows_of_a_purse(self):
        # All rows of up to four entries at the first place, the second one being right.
        for many in range(1, 5):
            for row in product(range(4), repeat=many):
                self.try_rows(PURSE, [row, [0, 3]])
        for rows, wanted in (
            ([[1, 2], [3, 0]], True), ([[2, 1, 1, 2], [0, 3]], True), ([[1, 1, 2, 2], [0, 3]], False), ([[1, 2], [0, 2]], False),
            ([[1, 2, 2], [0, 3]], False), ([[1, 2] * 30, [3, 0] * 29], True), ([[1] * 30 + [2] * 30, [0, 3]], False),
            ([[2, 1], [0, 3], [0]], False), ([[1, 2], [3, 0], [0, 3]], False), ([[2, 1], [3]], False),
        ):
            board = Board(2, rows)
            self.assertIs(shows_led(Game(PURSE), Led(board, [[1], [2]])), wanted)
            self.assertIs(is_led(PURSE, board, [(1,), (2,)]), wanted)

    def test_homes(self):
        for homes in range(1, 10):
            self.assertIs(self.try_rows(PURSE, [[1, 2], [0, 3]], homes=homes) or False, homes == 2)
            self.assertIs(self.try_rows(STUCK, [[0]], homes=homes), homes == 1)
            text = "numbers { x 0 0 0 } turn { chance 1 1 { home 2 } else { home 0 } if x = 1 { home 6 } }"
            if homes > 2:
                self.assertIs(self.try_rows(text, [[1, 3]], homes=homes), homes == 7)

    def test_standings(self):
        board = led(Game(PURSE)).board
        for standings in changed([[1], [2]]):
            wanted = isinstance(standings, (list, tuple)) and plain(list(standings)) == plain([[1], [2]])
            self.assertIs(shows_led(Game(PURSE), Led(board, standings)), wanted, standings)
        for standings, wanted in (
            ([[1], [2]], True), (((1,), (2,)), True), ([[2], [1]], False), ([[1]], False), ([[1], [2], [3]], False),
            ([[1], [2], [2]], False), ([1, 2], False), ([[True], [2]], False), ([[1.0], [2]], False), ([[1, 1], [2]], False),
            ([[], [2]], False), ([["1"], [2]], False), ([[[1]], [2]], False), (None, False), ([[1], [3]], False),
        ):
            self.assertIs(shows_led(Game(PURSE), Led(board, standings)), wanted, standings)
        board = led(Game(STUCK)).board
        for standings, wanted in (([[0]], True), ([[False]], False), ([(0,)], True), ([], False), ([[1]], False)):
            self.assertIs(shows_led(Game(STUCK), Led(board, standings)), wanted)

    def test_no_papers(self):
        told = led(Game(PURSE))
        for value in [*no_papers(Led, told.parts), odds(told.board, 0), Steps([(1, 1)]), told.board, led(Game(LADDER))]:
            self.assertIs(shows_led(Game(PURSE), value), False)
        for board in (None, told.board.rows, str(told.board), (told.board,), 2, Game(PURSE), told, Board, {}):
            self.assertIs(shows_led(Game(PURSE), Led(board, told.standings)), False)
        self.assertIs(shows_led(Game(LADDER), told), False)
        # The same game by other words has the same Led.
        self.assertIs(shows_led(Game(PURSE.replace("purse", "coins")), told), True)

    def test_wrong_values(self):
        told = led(Game(PURSE))
        for value in NO_GAMES:
            self.wrong(BadGame("game"), shows_led, value, told)
            self.wrong(BadGame("game"), shows_led, value, None)
        for deeds, wanted in (
            ("dice 10 x dice 10 x dice 5 x", TooMany("ways", 400)), ("dice 7 x dice 9 y", TooMany("row", 60)),
            ("up x 1 if x = 70 { home 0 }", TooMany("places", 60)),
        ):
            game = Game(f"numbers {{ x 0 99 0 y 0 99 0 }} turn {{ {deeds} if x = 99 {{ home 0 }} }}")
            for value in (told, None):
                self.wrong(wanted, shows_led, game, value)

    def test_short_time(self):
        begin = time.perf_counter()
        text = "numbers { x 0 10 0 y 1 6 1 z 1 6 1 } turn { dice 10 x down x 1 dice 6 z dice 6 y copy z y set z 1 if x = 99 { home 0 } }"
        told = led(Game(text))
        self.assertEqual((told.board.places, {len(row) for row in told.board.rows}), (60, {60}))
        for _ in range(3):
            self.assertIs(shows_led(Game(text), told), True)
            self.assertIs(shows_led(Game(text), Led(Board(1, [row[::-1] for row in told.board.rows]), told.standings)), True)
            self.assertIs(shows_led(Game(text), Led(Board(1, [[0] * 60] * 60), told.standings)), False)
        self.assertLess(time.perf_counter() - begin, 20)
