"""Odds of homes, and mean steps."""

import random
import time
from fractions import Fraction

from nodice.boards import Board, shut_lot
from nodice.errors import BadBoard, BadNumber, Misfit
from nodice.odds import Odds, Shut, Steps, mean_steps, odds, odds_from
from nodice.papers import Denial, Paper
from tests.support import NO_INTEGERS, Case, pair
from tests.test_boards import NO_BOARDS, comes_home, some_board

PURSE, TRAP = Board(2, [[1, 3], [2, 0]]), Board(1, [[1, 2], [1]])


def free_boards(maker, many, *sizes):
    """Boards without a shut place."""
    found = []
    while len(found) < many:
        board = some_board(maker, *sizes)
        if all(comes_home(board, place) for place in range(board.places)):
            found.append(board)
    return found


def numbers_of(board, ends, more, told):
    """For each place the mean over its row, and more."""
    numbers = [Fraction(*share) for share in told] + ends
    return [more + sum(numbers[entry] for entry in row) / len(row) for row in board.rows]


def gone_on(board, rounds):
    """What share of walkers from each place is at each home behind so many entries: never above the odds."""
    shares = [[Fraction(0)] * board.homes for _ in range(board.places)]
    ends = [[Fraction(int(home == other)) for other in range(board.homes)] for home in range(board.homes)]
    for _ in range(rounds):
        every = shares + ends
        shares = [
            [sum(every[entry][home] for entry in row) / len(row) for home in range(board.homes)] for row in board.rows
        ]
    return shares


class OddsOfHomes(Case):
    def test_means_over_rows(self):
        maker = random.Random(121)
        for board in [*free_boards(maker, 80), *free_boards(maker, 5, 20, 12, 9), PURSE]:
            everything = [Fraction(0)] * board.places
            for home in range(board.homes):
                told = odds(board, home)
                self.same((told.home, len(told.shares)), (home, board.places))
                ends = [Fraction(int(home == other)) for other in range(board.homes)]
                self.same(told.shares, tuple(map(pair, numbers_of(board, ends, 0, told.shares))))
                everything = [total + Fraction(*share) for total, share in zip(everything, told.shares)]
                for place in range(board.places):
                    self.same(odds_from(board, place)[home], told.shares[place])
            self.assertEqual(everything, [1] * board.places)

    def test_as_chance_goes_on(self):
        maker = random.Random(122)
        for board in free_boards(maker, 25, 4, 4):
            shares = gone_on(board, 40)
            for place in range(board.places):
                told = [Fraction(*share) for share in odds_from(board, place)]
                gone = sum(shares[place])
                for home in range(board.homes):
                    self.assertLessEqual(shares[place][home], told[home])
                    self.assertLessEqual(told[home], shares[place][home] + 1 - gone)

    def test_known(self):
        # A purse that is to come to 6 before it is empty.
        board = Board(2, [[6 if k == 0 else k - 1, k + 1 if k < 4 else 5] for k in range(5)])
        self.same(odds(board, 0).shares, tuple(pair(Fraction(k + 1, 6)) for k in range(5)))
        self.same(odds(board=board, home=1).shares, tuple(pair(Fraction(5 - k, 6)) for k in range(5)))
        self.same(mean_steps(board).means, tuple((k * (6 - k), 1) for k in range(1, 6)))
        self.same(odds_from(Board(9, [[1, 1, 2, 9]]), 0), ((1, 2), (1, 4), *[(0, 1)] * 6, (1, 4)))
        self.same(odds(Board(1, [[0] * 59 + [1]]), 0).shares, ((1, 1),))
        self.same(mean_steps(Board(1, [[0] * 59 + [1]])).means, ((60, 1),))

    def test_papers(self):
        told = odds(PURSE, 0)
        self.same((told.word, told.parts, told.__class__), ("odds", (0, ((1, 3), (2, 3))), Odds))
        self.assertIs(bool(told), True)
        self.assertIs(told == Odds(shares=[[1, 3], [2, 3]], home=0), True)
        self.assertIs(told == odds(PURSE, 1), False)
        self.assertEqual((Odds.__bases__, Steps.__bases__, Shut.__bases__), ((Paper,), (Paper,), (Denial,)))
        self.same((Odds([1], {}).home, Odds([1], {}).shares), ((1,), {}))
        told = mean_steps(PURSE)
        self.same((told.word, told.parts, told.means), ("steps", (((2, 1), (2, 1)),), ((2, 1), (2, 1))))
        self.assertIs(bool(told), True)
        self.assertIs(told == Steps(means=[[2, 1], [2, 1]]), True)
        told = odds(TRAP, 0)
        self.same((told.word, told.parts, told.lot), ("shut", ((1,),), (1,)))
        self.assertIs(bool(told), False)
        self.assertIs(told == Shut(lot=[1]), True)
        self.assertIs(Steps((1,)) == Shut((1,)), False)


class MeanSteps(Case):
    def test_means_over_rows(self):
        maker = random.Random(123)
        for board in [*free_boards(maker, 80), *free_boards(maker, 5, 20, 12, 9), PURSE]:
            told = mean_steps(board)
            ends = [Fraction(0)] * board.homes
            self.same(told.means, tuple(map(pair, numbers_of(board, ends, 1, told.means))))
            self.assertGreaterEqual(min(Fraction(*steps) for steps in told.means), 1)

    def test_one_step_at_least(self):
        self.same(mean_steps(board=Board(3, [[1], [2, 3], [3, 4, 5]])).means[2], (1, 1))
        self.same(mean_steps(Board(1, [[place + 1] for place in range(60)])).means, tuple((60 - k, 1) for k in range(60)))


class ShutBoards(Case):
    def test_shut(self):
        maker = random.Random(124)
        shut = 0
        for _ in range(200):
            board = some_board(maker, 6, 2)
            lot = shut_lot(board)
            if lot:
                shut += 1
                for told in [mean_steps(board), *[odds(board, home) for home in range(board.homes)]]:
                    self.assertIs(told.__class__, Shut)
                    self.same(told.lot, lot)
                for place in range(board.places):
                    self.wrong(Misfit("board"), odds_from, board, place)
        self.assertGreater(shut, 20)

    def test_all_shut(self):
        board = Board(9, [[place] for place in range(60)])
        self.same(odds(board, 8).lot, tuple(range(60)))
        self.same(mean_steps(board).lot, tuple(range(60)))


class TurnedAbout(Case):
    def test_places_turned_about(self):
        maker = random.Random(125)
        for board in free_boards(maker, 30):
            order = maker.sample(range(board.places), board.places)
            new = {old: at for at, old in enumerate(order)}
            rows = [[new.get(entry, entry) for entry in board.rows[old]] for old in order]
            other = Board(board.homes, rows)
            for home in range(board.homes):
                self.same(odds(other, home).shares, tuple(odds(board, home).shares[old] for old in order))
            self.same(mean_steps(other).means, tuple(mean_steps(board).means[old] for old in order))

    def test_homes_turned_about(self):
        maker = random.Random(126)
        for board in free_boards(maker, 30):
            order = maker.sample(range(board.homes), board.homes)
            new = {board.places + old: board.places + at for at, old in enumerate(order)}
            other = Board(board.homes, [[new.get(entry, entry) for entry in row] for row in board.rows])
            for at, old in enumerate(order):
                self.same(odds(other, at).shares, odds(board, old).shares)
            self.same(mean_steps(other).means, mean_steps(board).means)

    def test_rows_told_many_times_and_in_another_order(self):
        maker = random.Random(127)
        for board in free_boards(maker, 30):
            rows = [maker.sample(row * times, len(row) * times) for row, times in zip(board.rows, (1, 2, 7, 12, 3, 4))]
            other = Board(board.homes, rows)
            for home in range(board.homes):
                self.same(odds(other, home).shares, odds(board, home).shares)
            self.same(mean_steps(other).means, mean_steps(board).means)

    def test_places_nobody_comes_to(self):
        maker = random.Random(128)
        for board in free_boards(maker, 30):
            more = [maker.sample(range(board.places), 1), [board.places, board.places + 2]]
            rows = [[entry if entry < board.places else entry + 2 for entry in row] for row in board.rows]
            other = Board(board.homes, [*rows, *more])
            for home in range(board.homes):
                told = odds(other, home).shares
                self.same(told[:board.places], odds(board, home).shares)
                self.same(told[board.places], odds(board, home).shares[more[0][0]])
            self.same(mean_steps(other).means[:board.places], mean_steps(board).means)


class Wrong(Case):
    def test_wrong_values(self):
        for value in NO_BOARDS:
            self.wrong(BadBoard("board"), odds, value, None)
            self.wrong(BadBoard("board"), mean_steps, value)
            self.wrong(BadBoard("board"), odds_from, value, None)
        for board in (PURSE, TRAP):
            for value in [*NO_INTEGERS, -1, board.homes, 10 ** 70]:
                self.wrong(BadNumber("home"), odds, board, value)
            for value in [*NO_INTEGERS, -1, board.places, 10 ** 70]:
                self.wrong(BadNumber("place"), odds_from, board, value)
        self.wrong(Misfit("board"), odds_from, TRAP, 0)
        self.wrong(Misfit("board"), odds_from, TRAP, 1)

    def test_short_time(self):
        begin = time.perf_counter()
        maker = random.Random(129)
        boards = free_boards(maker, 10, 20, 12, 9)
        boards.append(Board(1, [[0] * 11 + [place + 1] for place in range(20)]))
        boards.append(Board(9, [[maker.randrange(29) for _ in range(12)] for _ in range(20)]))
        for board in boards:
            for home in range(board.homes):
                self.assertIs(bool(odds(board, home)), True)
            mean_steps(board)
            odds_from(board, 0)
        self.assertLess(time.perf_counter() - begin, 20)

    def test_the_greatest_boards(self):
        maker = random.Random(130)
        board = Board(9, [[maker.randrange(69) for _ in range(60)] for _ in range(60)])
        ends = [Fraction(int(other == 4)) for other in range(9)]
        told = odds(board, 4)
        self.same(told.shares, tuple(map(pair, numbers_of(board, ends, 0, told.shares))))
        told = mean_steps(board)
        self.same(told.means, tuple(map(pair, numbers_of(board, [Fraction(0)] * 9, 1, told.means))))
