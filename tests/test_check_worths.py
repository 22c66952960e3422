"""Whether a Bound is right."""

import random
import time

from nodice.boards import Board
from nodice.check_worths import shows_bound
from nodice.errors import BadBoard, BadNumber, Misfit
from nodice.odds import Odds, odds
from nodice.worths import Bound, told_bound
from tests.support import NO_INTEGERS, Case, changed_parts, no_papers, plain
from tests.test_boards import NO_BOARDS
from tests.test_odds import PURSE, TRAP, free_boards


class ShowsBound(Case):
    def test_told(self):
        maker = random.Random(161)
        for board in [PURSE, Board(9, [[9]]), *free_boards(maker, 60)]:
            for home in range(board.homes):
                told = told_bound(board, home)
                self.assertIs(shows_bound(board, home, told), True)
                shares, spans = [list(share) for share in told.shares], [[list(low), high] for low, high in told.spans]
                self.assertIs(shows_bound(board=board, home=home, value=Bound(home, shares, spans, list(told.total))), True)
                for other in range(board.homes):
                    self.assertIs(shows_bound(board, other, told), other == home)

    def test_changed(self):
        maker = random.Random(162)
        for board in [PURSE, Board(1, [[0, 0, 1]]), Board(9, [[9]]), *free_boards(maker, 3, 3, 3)]:
            for home in range(min(board.homes, 2)):
                told = told_bound(board, home)
                for parts in changed_parts(told.parts):
                    wanted = plain(parts) == plain(told.parts)
                    self.assertIs(shows_bound(board, home, Bound(*parts)), wanted, (board.rows, home, parts))

    def test_not_reduced(self):
        for parts, wanted in (
            ((0, [(1, 3), (2, 3)], [[(-1, 3), (0, 1)]] * 2, (2, 3)), True),
            ((0, [(2, 6), (2, 3)], [[(-1, 3), (0, 1)]] * 2, (2, 3)), False),
            ((0, [(1, 3), (2, 3)], [[(-1, 3), (0, 2)]] * 2, (2, 3)), False),
            ((0, [(1, 3), (2, 3)], [[(1, -3), (0, 1)]] * 2, (2, 3)), False),
            ((0, [(1, 3), (2, 3)], [[(0, 1), (-1, 3)]] * 2, (2, 3)), False),
            ((0, [(1, 3), (2, 3)], [[(-1, 3), (0, 1)]] * 2, (4, 6)), False),
            ((0, [(1, 3), (2, 3)], [[(-1, 3), (False, True)]] * 2, (2, 3)), False),
            ((False, [(1, 3), (2, 3)], [[(-1, 3), (0, 1)]] * 2, (2, 3)), False),
            ((0.0, [(1, 3), (2, 3)], [[(-1, 3), (0, 1)]] * 2, (2, 3)), False),
            ((0, [(1, 3), (2, 3)], [[(-1, 3), (0, 1)]] * 3, (2, 3)), False),
            ((0, [(1, 3), (2, 3)], [[(-1, 3), (0, 1)]], (2, 3)), False),
        ):
            self.assertIs(shows_bound(PURSE, 0, Bound(*parts)), wanted)

    def test_no_papers(self):
        told = told_bound(PURSE, 0)
        for value in [*no_papers(Bound, told.parts), odds(PURSE, 0), Odds(told.shares, told.spans), told.parts]:
            self.assertIs(shows_bound(PURSE, 0, value), False)

    def test_wrong_values(self):
        told = told_bound(PURSE, 0)
        for value in NO_BOARDS:
            self.wrong(BadBoard("board"), shows_bound, value, None, told)
        for board in (PURSE, TRAP):
            for value in [*NO_INTEGERS, -1, board.homes]:
                self.wrong(BadNumber("home"), shows_bound, board, value, told)
                self.wrong(BadNumber("home"), shows_bound, board, value, None)
        for value in (told, None, odds(TRAP, 0)):
            self.wrong(Misfit("board"), shows_bound, TRAP, 0, value)

    def test_short_time(self):
        begin = time.perf_counter()
        maker = random.Random(163)
        for board in free_boards(maker, 10, 20, 12, 9):
            for home in range(board.homes):
                told = told_bound(board, home)
                self.assertIs(shows_bound(board, home, told), True)
                self.assertIs(shows_bound(board, home, Bound(home, told.shares, told.spans, (1, 10 ** 300))), False)
        self.assertLess(time.perf_counter() - begin, 20)
