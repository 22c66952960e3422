"""Boards, and their shut places."""

import random
import time

from nodice.boards import Board, shut_lot
from nodice.errors import BadBoard
from tests.support import NO_INTEGERS, NO_LISTS, Case

NO_BOARDS = [None, True, 0, "1 / 1", [], (1, [[1]]), [1, ((1,),)], {}, Board, 1.5]
NO_ROWS = [
    *NO_LISTS, [], (), [[]], [()], [1], [None], [[0], 1], [[0], []], [[0], None], ["01"], [{0: 1}], [{0}], {(0,)}, {(0,): 1},
    [[2]], [[-1]], [[0], [3]], [[0, 1, 1, 2]], [[0]] * 61, [[0] * 61], [[1], [0] * 61], [[10 ** 70]],
    *[[[value]] for value in NO_INTEGERS], *[[[0], [1, value]] for value in NO_INTEGERS],
]


def some_board(maker, most_places=6, most_entries=5, most_homes=3):
    places, homes = maker.randrange(1, most_places + 1), maker.randrange(1, most_homes + 1)
    ends = places + maker.choice([0, homes, homes])
    rows = [[maker.randrange(ends) for _ in range(maker.randrange(1, most_entries + 1))] for _ in range(places)]
    return Board(homes, rows)


def comes_home(board, place):
    """Whether a home can be come to: entry by entry, from this place on."""
    seen, ahead = {place}, [place]
    while ahead:
        for entry in board.rows[ahead.pop()]:
            if entry >= board.places:
                return True
            if entry not in seen:
                seen.add(entry)
                ahead.append(entry)
    return False


class Boards(Case):
    def test_attributes(self):
        board = Board(2, [[1, 3], (2, 0)])
        self.same((board.homes, board.places, board.rows), (2, 2, ((1, 3), (2, 0))))
        board = Board(homes=1, rows=((0, 0, 1),))
        self.same((board.homes, board.places, board.rows), (1, 1, ((0, 0, 1),)))

    def test_bounds(self):
        for homes in (1, 2, 9):
            for places in (1, 2, 60):
                rows = [[places + homes - 1] * 60, *[[0]] * (places - 1)]
                board = Board(homes, rows)
                self.same((board.homes, board.places, board.rows), (homes, places, tuple(map(tuple, rows))))
                for entry in (-1, places + homes):
                    self.wrong(BadBoard("rows"), Board, homes, [[0] * 59 + [entry], *[[0]] * (places - 1)])
                    self.wrong(BadBoard("rows"), Board, homes, [*[[0]] * (places - 1), [entry]])

    def test_wrong_values(self):
        for value in [*NO_INTEGERS, 0, -1, 10, 10 ** 70]:
            self.wrong(BadBoard("homes"), Board, value, [[0]])
            self.wrong(BadBoard("homes"), Board, value, None)
        for value in NO_ROWS:
            self.wrong(BadBoard("rows"), Board, 1, value)

    def test_what_was_passed_changes(self):
        row = [0, 1]
        rows = [row]
        board = Board(1, rows)
        row.append(1)
        row[0] = 1
        rows.append([0])
        self.same((board.places, board.rows, str(board)), (1, ((0, 1),), "1 / 0 1"))

    def test_equality(self):
        board = Board(2, [[1, 3], [2, 0]])
        self.assertIs(board == Board(2, ((1, 3), (2, 0))), True)
        self.assertIs(board != Board(2, ((1, 3), (2, 0))), False)
        for other in (
            Board(3, [[1, 3], [2, 0]]), Board(2, [[3, 1], [2, 0]]), Board(2, [[2, 0], [1, 3]]), Board(2, [[1, 3, 1], [2, 0]]),
            Board(2, [[1, 3], [2, 0], [0]]), *NO_BOARDS, board.rows, str(board),
        ):
            self.assertIs(board == other, False)
            self.assertIs(board != other, True)

    def test_lists_and_tuples(self):
        wanted = Board(2, [[1, 3], [2, 0]])
        for rows in ([[1, 3], (2, 0)], ((1, 3), [2, 0]), ((1, 3), (2, 0))):
            self.assertIs(Board(2, rows) == wanted, True)
            self.same(Board(2, rows).rows, wanted.rows)


class ShutPlaces(Case):
    def test_entry_by_entry(self):
        maker = random.Random(101)
        found = []
        for _ in range(400):
            board = some_board(maker, 8, 3)
            wanted = tuple([place for place in range(board.places) if not comes_home(board, place)])
            self.same(shut_lot(board), wanted)
            found.append(0 < len(wanted) < board.places)
        self.assertIn(True, found)

    def test_shut_places_lead_to_shut_places(self):
        maker = random.Random(102)
        for _ in range(100):
            board = some_board(maker, 8, 3)
            lot = shut_lot(board)
            for place in range(board.places):
                self.assertEqual(place in lot, set(board.rows[place]) <= set(lot))

    def test_edges(self):
        self.same(shut_lot(Board(1, [[1]])), ())
        self.same(shut_lot(board=Board(1, [[0]])), (0,))
        self.same(shut_lot(Board(9, [[place] for place in range(60)])), tuple(range(60)))
        # From each place to the next one, home from the last one; or from the first one, the other way.
        self.same(shut_lot(Board(1, [[place + 1] for place in range(60)])), ())
        self.same(shut_lot(Board(1, [[60], *[[place] for place in range(59)]])), ())
        self.same(shut_lot(Board(1, [[60], *[[place, 59] for place in range(58)], [59]])), (59,))

    def test_wrong_values(self):
        for value in NO_BOARDS:
            self.wrong(BadBoard("board"), shut_lot, value)

    def test_short_time(self):
        begin = time.perf_counter()
        maker = random.Random(103)
        for rows in (
            [[maker.randrange(69) for _ in range(60)] for _ in range(60)], [[place] * 59 + [place + 1] for place in range(60)],
            [[59] * 60 for _ in range(60)], [[max(place - 1, 0)] * 60 for place in range(60)],
        ):
            board = Board(9, rows)
            for _ in range(5):
                shut_lot(board)
                self.assertIs(Board.read(str(board)) == board, True)
        self.assertLess(time.perf_counter() - begin, 20)
