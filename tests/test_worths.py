"""Worths, spans and bounds; what is kept; plays and their gaps."""

import random
import time
from fractions import Fraction

from nodice.boards import Board, shut_lot
from nodice.errors import BadBoard, BadNumber, BadWorld, Misfit, TooMany
from nodice.odds import odds, odds_from
from nodice.papers import Paper
from nodice.worlds import World
from nodice.worths import Bound, gap_after, kept, plays, told_bound, worths
from tests.support import NO_INTEGERS, Case, pair
from tests.test_boards import NO_BOARDS, some_board
from tests.test_odds import PURSE, TRAP, free_boards
from tests.test_worlds import FAR, no_hands, some_hands, steps_home

NO_WORLDS = [None, True, 0, "", [], PURSE, (PURSE, [0, 0]), World, {}, 1.5]


def height(board, home, entry):
    """The odds of a home from an entry."""
    if entry < board.places:
        return Fraction(*odds(board, home).shares[entry])
    return Fraction(int(entry == board.places + home))


def added_worths(board, home):
    """For each place the worths of its hand, each added anew."""
    heights = [height(board, home, entry) for entry in range(board.places + board.homes)]
    return [
        [sum((heights[place] - heights[entry] for entry in row[:hand]), Fraction(0)) for hand in range(len(row))]
        for place, row in enumerate(board.rows)
    ]


def pairs(rows):
    return tuple(tuple(map(pair, row)) for row in rows)


class Worths(Case):
    def test_by_adding(self):
        maker = random.Random(151)
        for board in [PURSE, Board(9, [[9]]), Board(1, [[0] * 11 + [1]]), *free_boards(maker, 60)]:
            for home in range(board.homes):
                rows = added_worths(board, home)
                self.same(worths(board, home), pairs(rows))
                told = told_bound(board, home)
                self.same((told.home, told.shares), (home, odds(board, home).shares))
                self.same(told.spans, pairs([(min(row), max(row)) for row in rows]))
                self.same(told.total, pair(sum(max(row) - min(row) for row in rows)))

    def test_over_a_whole_row(self):
        maker = random.Random(152)
        for board in free_boards(maker, 40):
            for home in range(board.homes):
                for place, row in enumerate(worths(board=board, home=home)):
                    self.same(row[0], (0, 1))
                    last = height(board, home, place) - height(board, home, board.rows[place][-1])
                    self.assertEqual(Fraction(*row[-1]) + last, 0)

    def test_all_homes_of_a_place_come_to_nothing(self):
        maker = random.Random(153)
        for board in free_boards(maker, 40):
            everything = [worths(board, home) for home in range(board.homes)]
            for place, row in enumerate(board.rows):
                for hand in range(len(row)):
                    self.assertEqual(sum(Fraction(*rows[place][hand]) for rows in everything), 0)

    def test_papers(self):
        told = told_bound(PURSE, 0)
        parts = (0, ((1, 3), (2, 3)), (((-1, 3), (0, 1)), ((-1, 3), (0, 1))), (2, 3))
        self.same((told.word, told.parts), ("bound", parts))
        self.same((told.home, told.shares, told.spans, told.total), parts)
        self.assertIs(bool(told), True)
        self.assertEqual((told.__class__, Bound.__bases__), (Bound, (Paper,)))
        self.assertIs(told == Bound(total=[2, 3], spans=[[[-1, 3], [0, 1]]] * 2, shares=[[1, 3], [2, 3]], home=0), True)
        self.assertIs(told == told_bound(PURSE, 1), False)
        self.same(Bound([1], {}, None, "a").parts, ((1,), {}, None, "a"))
        # Whatever its hand is, nothing is won or lost where all entries are alike.
        self.same(told_bound(Board(9, [[9, 9]]), 8).parts, (8, ((1, 1),), (((0, 1), (0, 1)),), (0, 1)))


class Kept(Case):
    def test_by_adding(self):
        maker = random.Random(154)
        for board in free_boards(maker, 25, 5, 4):
            world = World(board, some_hands(maker, board))
            for _ in range(4):
                world.enter(maker.randrange(board.places))
                for home in range(board.homes):
                    total = sum(height(board, home, at) for at in world.walkers)
                    rows = added_worths(board, home)
                    total += sum(row[hand] for row, hand in zip(rows, world.hands))
                    self.same(kept(world, home), pair(total))
                self.send(maker, world)

    def send(self, maker, world):
        outside = [walker for walker, at in enumerate(world.walkers) if at < world.board.places]
        if outside:
            world.advance(maker.choice(outside))

    def test_no_step_changes_it(self):
        maker = random.Random(155)
        for board in free_boards(maker, 25, 5, 4):
            home = maker.randrange(board.homes)
            world = World(board, some_hands(maker, board))
            now = Fraction(*kept(world, home))
            for _ in range(30):
                if maker.random() < 0.3:
                    place = maker.randrange(board.places)
                    world.enter(place)
                    now += height(board, home, place)
                else:
                    self.send(maker, world)
                self.same(kept(world=world, home=home), pair(now))

    def test_wins_less_odds(self):
        maker = random.Random(156)
        for board in free_boards(maker, 30, 5, 4):
            home = maker.randrange(board.homes)
            hands = some_hands(maker, board)
            world = World(board, hands)
            at_first = Fraction(*kept(world, home))
            bound = Fraction(*told_bound(board, home).total)
            entered = Fraction(0)
            for _ in range(25):
                place = maker.randrange(board.places)
                world.play(place, 10000)
                entered += height(board, home, place)
                now = sum(row[hand] for row, hand in zip(added_worths(board, home), world.hands))
                self.assertEqual(world.wins[home] - entered, at_first - now)
                self.assertLessEqual(abs(world.wins[home] - entered), bound)


class Plays(Case):
    def test_against_worlds(self):
        maker = random.Random(157)
        for board in [*free_boards(maker, 30, 5, 4), PURSE]:
            hands = some_hands(maker, board)
            place = maker.randrange(board.places)
            for many in (0, 1, 7, 30):
                world = World(board, hands)
                homes = tuple([world.play(place, 10000) for _ in range(many)])
                self.same(plays(board, hands, place, many, 10000), homes)
                for home in range(board.homes):
                    gap = homes.count(home) - many * Fraction(*odds_from(board, place)[home])
                    self.same(gap_after(board, tuple(hands), place, home, many), pair(gap))
                    self.assertLessEqual(abs(gap), Fraction(*told_bound(board, home).total))

    def test_most(self):
        homes = plays(board=PURSE, hands=[0, 0], place=0, many=200, most=10)
        self.same(homes, ((0, 1, 1) * 67)[:200])
        self.same(plays(PURSE, [0, 0], 0, 0, 1), ())
        self.same(gap_after(board=PURSE, hands=[0, 0], place=0, home=0, many=200), (1, 3))
        for value in (-1, 201, *NO_INTEGERS):
            self.wrong(BadNumber("many"), plays, PURSE, [0, 0], 0, value, 10)
            self.wrong(BadNumber("many"), gap_after, PURSE, [0, 0], 0, 0, value)
        for value in (-1, 0, 10001, *NO_INTEGERS):
            self.wrong(BadNumber("most"), plays, PURSE, [0, 0], 0, 1, value)
            self.wrong(BadNumber("most"), plays, PURSE, [0, 0], 0, 0, value)
        # With 2 coins a play lasts two steps at first, one for the next time, and so on.
        self.same(plays(PURSE, [0, 0], 0, 1, 2), (0,))
        self.wrong(TooMany("steps", 1), plays, PURSE, [0, 0], 0, 1, 1)
        self.same(plays(PURSE, [1, 0], 0, 1, 1), (1,))
        self.wrong(TooMany("steps", 1), plays, PURSE, [1, 0], 0, 2, 1)
        self.same(plays(PURSE, [0, 0], 0, 3, 10000), (0, 1, 1))

    def test_a_play_with_just_enough_steps(self):
        maker = random.Random(158)
        for board in free_boards(maker, 30, 5, 4):
            hands, place = some_hands(maker, board), maker.randrange(board.places)
            most = 0
            world = World(board, hands)
            for _ in range(10):
                most = max(most, steps_home(board, world.hands, place, 10000))
                world.play(place, 10000)
            self.assertEqual(len(plays(board, hands, place, 10, most)), 10)
            if most > 1:
                self.wrong(TooMany("steps", most - 1), plays, board, hands, place, 10, most - 1)

    def test_shut_places(self):
        self.wrong(TooMany("steps", 9), plays, TRAP, [0, 0], 0, 1, 9)
        self.same(plays(TRAP, [1, 0], 0, 1, 9), (0,))
        self.wrong(TooMany("steps", 9), plays, TRAP, [1, 0], 0, 2, 9)
        self.same(plays(TRAP, [0, 0], 0, 0, 9), ())
        # Place 0 leads home; the shut place 1 is never come to.
        self.same(plays(Board(1, [[2], [1]]), [0, 0], 0, 200, 1), (0,) * 200)

    def test_long_plays(self):
        # Places that count as bits do: 14 of them need more than 10,000 steps at once.
        bits = Board(1, [[0, place + 1] for place in range(14)])
        self.wrong(TooMany("steps", 10000), plays, bits, [0] * 14, 0, 1, 10000)
        self.wrong(TooMany("steps", 10000), gap_after, bits, [0] * 14, 0, 0, 1)
        self.same(gap_after(bits, [0] * 14, 0, 0, 0), (0, 1))


class Wrong(Case):
    def test_boards_and_homes(self):
        for call in (worths, told_bound):
            for value in NO_BOARDS:
                self.wrong(BadBoard("board"), call, value, None)
            for board in (PURSE, TRAP):
                for value in [*NO_INTEGERS, -1, board.homes, FAR]:
                    self.wrong(BadNumber("home"), call, board, value)
            self.wrong(Misfit("board"), call, TRAP, 0)
        for value in NO_WORLDS:
            self.wrong(BadWorld("world"), kept, value, None)
        for world in (World(PURSE, [0, 0]), World(TRAP, [0, 0])):
            for value in [*NO_INTEGERS, -1, world.board.homes, FAR]:
                self.wrong(BadNumber("home"), kept, world, value)
        self.wrong(Misfit("world"), kept, World(TRAP, [0, 0]), 0)

    def test_plays(self):
        for value in NO_BOARDS:
            self.wrong(BadBoard("board"), plays, value, None, None, None, None)
            self.wrong(BadBoard("board"), gap_after, value, None, None, None, None)
        for board in (PURSE, TRAP):
            for value in no_hands(board):
                self.wrong(BadNumber("hands"), plays, board, value, None, None, None)
                self.wrong(BadNumber("hands"), gap_after, board, value, None, None, None)
            for value in [*NO_INTEGERS, -1, 2, FAR]:
                self.wrong(BadNumber("place"), plays, board, [0, 0], value, None, None)
                self.wrong(BadNumber("place"), gap_after, board, [0, 0], value, None, None)
                self.wrong(BadNumber("many"), plays, board, [0, 0], 1, value if value != 2 else 201, None)
            for value in [*NO_INTEGERS, -1, board.homes]:
                self.wrong(BadNumber("home"), gap_after, board, [0, 0], 1, value, None)
            for value in [*NO_INTEGERS, -1, 201]:
                self.wrong(BadNumber("many"), gap_after, board, [0, 0], 1, 0, value)
        self.wrong(BadNumber("most"), plays, TRAP, [0, 0], 0, 1, 0)
        for many in (0, 1):
            self.wrong(Misfit("board"), gap_after, TRAP, [0, 0], 0, 0, many)

    def test_shut_boards_are_refused(self):
        maker = random.Random(159)
        shut = 0
        for _ in range(60):
            board = some_board(maker, 5, 2)
            if shut_lot(board):
                shut += 1
                hands = some_hands(maker, board)
                self.wrong(Misfit("board"), worths, board, 0)
                self.wrong(Misfit("board"), told_bound, board, 0)
                self.wrong(Misfit("world"), kept, World(board, hands), 0)
                self.wrong(Misfit("board"), gap_after, board, hands, 0, 0, 200)
        self.assertGreater(shut, 10)

    def test_short_time(self):
        begin = time.perf_counter()
        maker = random.Random(160)
        for board in free_boards(maker, 10, 20, 12, 9):
            hands = some_hands(maker, board)
            for home in range(board.homes):
                worths(board, home)
                told_bound(board, home)
                kept(World(board, hands), home)
                gap_after(board, hands, 0, home, 200)
            plays(board, hands, 0, 200, 10000)
        self.assertLess(time.perf_counter() - begin, 20)
