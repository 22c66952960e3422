"""Worlds: walkers sent on by hands."""

import random
import time

from nodice.boards import Board
from nodice.errors import BadBoard, BadNumber, Misfit, TooMany
from nodice.worlds import World
from tests.support import NO_INTEGERS, NO_LISTS, Case
from tests.test_boards import NO_BOARDS, comes_home, some_board
from tests.test_odds import PURSE, TRAP, free_boards

FAR = 10 ** 70


class ByHand:
    """Hands, rows, walkers and wins kept by hand: each row is turned till its next entry is ahead."""

    def __init__(self, board, hands):
        self.board = board
        self.rows = [list(row[hand:] + row[:hand]) for row, hand in zip(board.rows, hands)]
        self.shown = list(hands)
        self.stand, self.wins, self.steps = [], [0] * board.homes, 0

    def advance(self, walker):
        place = self.stand[walker]
        entry = self.rows[place].pop(0)
        self.rows[place].append(entry)
        self.shown[place] = self.shown[place] + 1 if self.shown[place] + 1 < len(self.rows[place]) else 0
        self.stand[walker] = entry
        self.steps += 1
        if entry >= self.board.places:
            self.wins[entry - self.board.places] += 1
        return entry

    def is_home(self, walker):
        return self.stand[walker] >= self.board.places

    def told(self):
        return (self.board.rows, tuple(self.shown), tuple(self.stand), tuple(self.wins), self.steps)


def told(world):
    return (world.board.rows, world.hands, world.walkers, world.wins, world.steps)


def some_hands(maker, board):
    return [maker.randrange(len(row)) for row in board.rows]


def no_hands(board):
    right = [0] * board.places
    yield from NO_LISTS
    yield from (right[1:], right + [0], [right], dict(enumerate(right)), [None] * board.places)
    for place, row in enumerate(board.rows):
        for value in [*NO_INTEGERS, -1, len(row), FAR, -FAR]:
            yield right[:place] + [value] + right[place + 1:]


def steps_home(board, hands, place, most):
    """How many steps a play has, or None for more than most."""
    plain = ByHand(board, hands)
    plain.stand.append(place)
    while not plain.is_home(0):
        if plain.steps == most:
            return None
        plain.advance(0)
    return plain.steps


class Worlds(Case):
    def test_attributes(self):
        world = World(PURSE, [0, 1])
        self.same(told(world), (((1, 3), (2, 0)), (0, 1), (), (0, 0), 0))
        self.assertIs(world.board == PURSE, True)
        world = World(hands=(0,), board=Board(9, [[9, 9]]))
        self.same(told(world), (((9, 9),), (0,), (), (0,) * 9, 0))
        self.assertIs(World(PURSE, [0, 1]) == World(PURSE, (0, 1)), True)

    def test_against_hands_kept_by_hand(self):
        maker = random.Random(141)
        for _ in range(150):
            board = some_board(maker, 6, 4)
            hands = some_hands(maker, board)
            world, plain = World(board, hands), ByHand(board, hands)
            for _ in range(40):
                self.go_on(maker, world, plain)
                self.same(told(world), plain.told())

    def go_on(self, maker, world, plain):
        board = world.board
        deed = maker.choice(["enter", "advance", "advance", "led", "play"])
        place = maker.randrange(board.places)
        if deed == "enter":
            plain.stand.append(place)
            self.assertEqual(world.enter(place), len(plain.stand) - 1)
        elif deed == "play":
            many = steps_home(board, plain.shown, place, 60)
            if many is None:
                self.wrong(TooMany("steps", 60), world.play, place, 60)
            else:
                plain.stand.append(place)
                for _ in range(many):
                    end = plain.advance(len(plain.stand) - 1)
                self.assertEqual(world.play(place, 60), end - board.places)
        elif plain.stand:
            walker = maker.randrange(len(plain.stand))
            if plain.is_home(walker):
                self.wrong(Misfit("home"), world.advance, walker)
                self.wrong(Misfit("home"), world.led, walker, 1)
            elif deed == "advance":
                self.assertEqual(world.advance(walker), plain.advance(walker))
            else:
                self.lead(world, plain, walker)

    def lead(self, world, plain, walker):
        many = steps_home(world.board, plain.shown, plain.stand[walker], 60)
        if many is None:
            self.wrong(TooMany("steps", 60), world.led, walker, 60)
        else:
            for _ in range(many):
                end = plain.advance(walker)
            self.assertEqual(world.led(walker=walker, most=60), end - world.board.places)

    def test_just_as_many_steps_as_needed(self):
        maker = random.Random(142)
        for board in free_boards(maker, 60, 6, 4):
            hands = some_hands(maker, board)
            place = maker.randrange(board.places)
            many = steps_home(board, hands, place, 10000)
            world, other = World(board, hands), World(board, hands)
            other.enter(place)
            if many > 1:
                self.wrong(TooMany("steps", many - 1), world.play, place, many - 1)
                self.same(told(world), told(World(board, hands)))
                kept = told(other)
                self.wrong(TooMany("steps", many - 1), other.led, 0, many - 1)
                self.same(told(other), kept)
            home = world.play(place=place, most=many)
            self.assertEqual(other.led(0, many), home)
            self.same(told(world), told(other))
            self.assertEqual((world.steps, sum(world.wins), world.wins[home]), (many, 1, 1))

    def test_most_bounds(self):
        # Nine places count as bits do: the play has 2 ** 9 - 1 steps at most; the last board never ends.
        bits = Board(1, [[0, place + 1] for place in range(9)])
        for hands in ([0] * 9, [1] * 9):
            many = steps_home(bits, hands, 0, 10000)
            world = World(bits, hands)
            self.assertEqual(world.play(0, 10000), 0)
            self.assertEqual(world.steps, many)
        world = World(TRAP, [0, 0])
        world.enter(1)
        for call, at in ((world.play, 0), (world.led, 0)):
            self.wrong(TooMany("steps", 10000), call, at, 10000)
            self.wrong(TooMany("steps", 1), call, at, 1)
            for value in [*NO_INTEGERS, 0, -1, 10001, FAR]:
                self.wrong(BadNumber("most"), call, at, value)
        self.same(told(world), (((1, 2), (1,)), (0, 0), (1,), (0,), 0))

    def test_the_order_of_walkers_is_free(self):
        maker = random.Random(143)
        for board in free_boards(maker, 40, 6, 4):
            hands = some_hands(maker, board)
            entries = [maker.randrange(board.places) for _ in range(12)]
            ends = []
            for _ in range(4):
                world = World(board, hands)
                ahead = maker.sample(entries, len(entries))
                while ahead or any(at < board.places for at in world.walkers):
                    outside = [walker for walker, at in enumerate(world.walkers) if at < board.places]
                    if ahead and (not outside or maker.random() < 0.2):
                        world.enter(ahead.pop())
                    elif maker.random() < 0.1:
                        world.led(maker.choice(outside), 10000)
                    else:
                        world.advance(maker.choice(outside))
                ends.append((world.hands, world.wins, world.steps))
            world = World(board, hands)
            for place in entries:
                world.play(place, 10000)
            ends.append((world.hands, world.wins, world.steps))
            self.assertEqual(len(set(ends)), 1)

    def test_most_walkers(self):
        world = World(PURSE, [0, 0])
        for number in range(200):
            self.assertEqual(world.enter(number % 2), number)
        kept = told(world)
        self.wrong(TooMany("walkers", 200), world.enter, 0)
        self.wrong(TooMany("walkers", 200), world.play, 0, 9)
        self.wrong(TooMany("walkers", 200), world.play, 0, 1)
        self.wrong(BadNumber("place"), world.enter, 2)
        self.wrong(BadNumber("most"), world.play, 0, 0)
        self.same(told(world), kept)
        self.assertEqual(world.advance(199), 2)
        self.assertEqual(world.led(198, 9), 1)
        world = World(PURSE, [0, 0])
        self.assertEqual([world.play(0, 9) for _ in range(200)], ([0, 1, 1] * 67)[:200])
        self.wrong(TooMany("walkers", 200), world.play, 0, 9)


class Copies(Case):
    def test_they_go_their_own_ways(self):
        maker = random.Random(144)
        for _ in range(40):
            board = some_board(maker, 5, 3)
            world = World(board, some_hands(maker, board))
            for _ in range(6):
                world.enter(maker.randrange(board.places))
            for walker in range(3):
                world.advance(walker)
            other = world.copy()
            self.assertIs(other == world, True)
            self.assertIs(other.__class__, World)
            kept = told(world)
            other.enter(0)
            self.assertIs(other == world, False)
            other.advance(6)
            self.same(told(world), kept)
            again = told(other)
            world.advance(5)
            self.same(told(other), again)

    def test_equality(self):
        world = World(PURSE, [0, 0])
        self.assertIs(world == World(Board(2, [[1, 3], [2, 0]]), (0, 0)), True)
        self.assertIs(world != World(PURSE, [0, 0]), False)
        entered, other_place = World(PURSE, [0, 0]), World(PURSE, [0, 0])
        entered.enter(0)
        other_place.enter(1)
        for other in (World(PURSE, [0, 1]), World(Board(2, [[3, 1], [2, 0]]), [0, 0]), entered, None, True, PURSE, told(world)):
            self.assertIs(world == other, False)
            self.assertIs(world != other, True)
        self.assertIs(entered == other_place, False)
        # Alike in all but steps.
        still = Board(1, [[0]])
        one, two = World(still, [0]), World(still, [0])
        one.enter(0)
        two.enter(0)
        one.advance(0)
        self.assertEqual((one.hands, one.walkers, one.wins), (two.hands, two.walkers, two.wins))
        self.assertIs(one == two, False)

    def test_what_was_passed_changes(self):
        hands = [0, 0]
        world = World(PURSE, hands)
        hands[0] = 1
        hands.append(1)
        self.same(world.hands, (0, 0))
        world.play(0, 9)
        self.assertEqual(hands, [1, 0, 1])


class Wrong(Case):
    def test_wrong_values(self):
        for value in NO_BOARDS:
            self.wrong(BadBoard("board"), World, value, [0, 0])
            self.wrong(BadBoard("board"), World, value, None)
        for board in (PURSE, TRAP, Board(1, [[1] * 60] * 60)):
            for value in no_hands(board):
                self.wrong(BadNumber("hands"), World, board, value)
        world = World(PURSE, [0, 0])
        for value in [*NO_INTEGERS, -1, 2, FAR, -FAR]:
            self.wrong(BadNumber("place"), world.enter, value)
            self.wrong(BadNumber("place"), world.play, value, None)
        for value in [*NO_INTEGERS, -1, 0]:
            self.wrong(BadNumber("walker"), world.advance, value)
            self.wrong(BadNumber("walker"), world.led, value, None)
        world.play(0, 9)
        for value in [*NO_INTEGERS, -1, 1, FAR]:
            self.wrong(BadNumber("walker"), world.advance, walker=value)
            self.wrong(BadNumber("walker"), world.led, value, 0)
        for value in [*NO_INTEGERS, 0, 10001]:
            self.wrong(BadNumber("most"), world.led, 0, value)
            self.wrong(BadNumber("most"), world.play, 0, value)
        self.wrong(Misfit("home"), world.led, 0, 1)
        self.same(told(world), (((1, 3), (2, 0)), (1, 1), (2,), (1, 0), 2))

    def test_shut_places(self):
        maker = random.Random(145)
        ended = []
        for _ in range(100):
            board = some_board(maker, 5, 3)
            hands = some_hands(maker, board)
            for place in range(board.places):
                world = World(board, hands)
                many = steps_home(board, hands, place, 300)
                ended.append((many is None, comes_home(board, place)))
                if many is None:
                    self.wrong(TooMany("steps", 300), world.play, place, 300)
                    self.same(told(world), told(World(board, hands)))
                else:
                    world.play(place, many)
                    self.assertEqual(world.steps, many)
        self.assertIn((True, True), ended)
        self.assertIn((True, False), ended)
        self.assertNotIn((False, False), ended)

    def test_short_time(self):
        begin = time.perf_counter()
        maker = random.Random(146)
        board = Board(9, [[maker.randrange(69) for _ in range(60)] for _ in range(60)])
        world = World(board, [59] * 60)
        for number in range(200):
            world.play(number % 60, 10000)
        ring = World(Board(1, [[(place + 1) % 60] * 60 for place in range(60)]), [0] * 60)
        self.wrong(TooMany("steps", 10000), ring.play, 0, 10000)
        ring.enter(0)
        for _ in range(20000):
            ring.advance(0)
        self.assertEqual(ring.steps, 20000)
        self.assertLess(time.perf_counter() - begin, 20)
