"""Whether Odds, Steps and Shut are right."""

import random
import time
from itertools import permutations

from nodice.boards import Board, shut_lot
from nodice.check_odds import shows_odds, shows_steps
from nodice.errors import BadBoard, BadNumber
from nodice.odds import Odds, Shut, Steps, mean_steps, odds
from tests.support import NO_INTEGERS, Case, changed_parts, no_papers, plain
from tests.test_boards import NO_BOARDS, some_board
from tests.test_odds import PURSE, TRAP, free_boards

LOOP = Board(2, [[1, 2], [1], [3], [2, 2], [4, 6]])


def is_shut_lot(board, lot):
    if not isinstance(lot, (list, tuple)) or not lot or not all(place.__class__ is int for place in lot):
        return False
    if len(set(lot)) < len(lot) or not set(lot) <= set(range(board.places)):
        return False
    return all(entry in lot for place in lot for entry in board.rows[place])


class ShowsOdds(Case):
    def test_told(self):
        maker = random.Random(131)
        for board in [some_board(maker, 6, 3) for _ in range(150)] + [PURSE, TRAP, LOOP]:
            for home in range(board.homes):
                told = odds(board, home)
                self.assertIs(shows_odds(board, home, told), True)
                by_hand = Shut(list(told.lot)) if not told else Odds(home, [list(share) for share in told.shares])
                self.assertIs(shows_odds(board=board, home=home, value=by_hand), True)
                other = (home + 1) % board.homes
                if told and other != home:
                    self.assertIs(shows_odds(board, other, told), False)
                    self.assertIs(shows_odds(board, other, Odds(other, told.shares)), told.shares == odds(board, other).shares)
            self.assertIs(shows_steps(board, mean_steps(board)), True)

    def test_changed(self):
        maker = random.Random(132)
        for board in [PURSE, Board(1, [[0, 0, 1]]), Board(9, [[9]]), *free_boards(maker, 5, 3, 3)]:
            for home in range(min(board.homes, 2)):
                told = odds(board, home)
                for parts in changed_parts(told.parts):
                    wanted = plain(parts) == plain(told.parts)
                    self.assertIs(shows_odds(board, home, Odds(*parts)), wanted, (board.rows, home, parts))

    def test_one_home(self):
        # On a board with one home all odds are 1; no other table is one of means.
        board = Board(1, [[1, 0], [2, 0]])
        for share, wanted in (((1, 1), True), ((1, 2), False), ((0, 1), False), ((2, 1), False), ((-1, 1), False)):
            self.assertIs(shows_odds(board, 0, Odds(0, [share, share])), wanted)
        self.assertIs(shows_odds(board, 0, Odds(False, [(1, 1), (1, 1)])), False)
        self.assertIs(shows_odds(Board(2, [[1, 2]]), 1, Odds(True, [(1, 2)])), False)

    def test_steps_changed(self):
        maker = random.Random(133)
        for board in [PURSE, Board(1, [[0, 0, 1]]), Board(9, [[9]]), *free_boards(maker, 5, 3, 3)]:
            told = mean_steps(board)
            for parts in changed_parts(told.parts):
                wanted = plain(parts) == plain(told.parts)
                self.assertIs(shows_steps(board, Steps(*parts)), wanted, (board.rows, parts))

    def test_lots(self):
        maker = random.Random(134)
        for board in [LOOP, TRAP, *[some_board(maker, 4, 2, 2) for _ in range(40)]]:
            for many in range(board.places + 1):
                for lot in permutations(range(-1, board.places + 2), many):
                    wanted = is_shut_lot(board, lot)
                    self.assertIs(shows_odds(board, 0, Shut(list(lot))), wanted, (board.rows, lot))
                    self.assertIs(shows_steps(board, Shut(lot)), wanted, (board.rows, lot))

    def test_lots_changed(self):
        for board in (LOOP, TRAP, PURSE):
            for lot in ((1,), (3, 2), (2, 3, 1), (0, 1), ()):
                for parts in changed_parts([lot]):
                    wanted = is_shut_lot(board, *parts)
                    self.assertIs(shows_odds(board, 0, Shut(*parts)), wanted, parts)
                    self.assertIs(shows_steps(board, Shut(*parts)), wanted, parts)
        for lot, wanted in (((1,), True), ((2, 3), True), ((3, 1, 2), True), ((2,), False), ((1, 2), False), ((4,), False)):
            self.assertIs(shows_odds(LOOP, 1, Shut(lot)), wanted)

    def test_means_on_shut_boards(self):
        # Place 1 leads to itself alone: with any number there the rows have their means.
        for share in ((0, 1), (1, 1), (1, 2)):
            first = {(0, 1): (1, 2), (1, 1): (1, 1), (1, 2): (3, 4)}[share]
            self.assertIs(shows_odds(TRAP, 0, Odds(0, [first, share])), False)
        self.assertIs(shows_steps(TRAP, Steps([(1, 1), (1, 1)])), False)

    def test_papers_of_other_classes(self):
        told = odds(PURSE, 0)
        for value in [*no_papers(Odds, told.parts), mean_steps(PURSE), Steps(told.shares), Shut(told.shares), Shut([0, 1])]:
            self.assertIs(shows_odds(PURSE, 0, value), False)
        steps = mean_steps(PURSE)
        for value in [*no_papers(Steps, steps.parts), told, Odds(0, steps.means), Shut([0])]:
            self.assertIs(shows_steps(PURSE, value), False)
        for value in no_papers(Shut, [(1,)]):
            self.assertIs(shows_odds(TRAP, 0, value), False)
            self.assertIs(shows_steps(TRAP, value), False)

    def test_wrong_values(self):
        told = odds(PURSE, 0)
        for value in NO_BOARDS:
            self.wrong(BadBoard("board"), shows_odds, value, None, told)
            self.wrong(BadBoard("board"), shows_steps, value, told)
        for board in (PURSE, TRAP):
            for value in [*NO_INTEGERS, -1, board.homes]:
                self.wrong(BadNumber("home"), shows_odds, board, value, told)
                self.wrong(BadNumber("home"), shows_odds, board, value, None)

    def test_short_time(self):
        begin = time.perf_counter()
        maker = random.Random(135)
        for board in free_boards(maker, 10, 20, 12, 9):
            self.assertIs(shows_odds(board, 0, odds(board, 0)), True)
            self.assertIs(shows_steps(board, mean_steps(board)), True)
            great = [(10 ** 300 + k, 10 ** 300 + k + 1) for k in range(board.places)]
            self.assertIs(shows_steps(board, Steps(great)), False)
            self.assertEqual(shut_lot(board), ())
        self.assertLess(time.perf_counter() - begin, 20)
