"""Boards: places with rows of entries, which lead to places and homes."""

from nodice.checks import is_within
from nodice.errors import BadBoard, BadText
from nodice.texts import items_of, need_word, number_at

MOST_HOMES = 9
MOST_PLACES = 60
MOST_ENTRIES = 60


class Board:
    """Homes, and for each place a row of entries."""

    def __init__(self, homes, rows):
        if not is_within(homes, 1, MOST_HOMES):
            raise BadBoard("homes")
        if not _are_rows(rows, homes):
            raise BadBoard("rows")
        self.homes = homes
        self.places = len(rows)
        self.rows = tuple([tuple(row) for row in rows])

    def __eq__(self, other):
        return isinstance(other, Board) and self.homes == other.homes and self.rows == other.rows

    def __str__(self):
        rows = [" ".join([f"{entry}" for entry in row]) for row in self.rows]
        return " / ".join([f"{self.homes}", *rows])

    @staticmethod
    def read(text):
        """The Board whose text this is."""
        items = items_of(text)
        homes = number_at(items, 0, 1, MOST_HOMES)
        need_word(items, 1, "/")
        row, at = _row_from(items, 2)
        rows = [row]
        while at < len(items):
            need_word(items, at, "/")
            if len(rows) == MOST_PLACES:
                raise BadText(0, at)
            row, at = _row_from(items, at + 1)
            rows.append(row)
        if not _are_rows(rows, homes):
            raise BadText(0, len(items) - 1)
        return Board(homes, rows)


def shut_lot(board):
    """The places, ascending, from which no home can be come to."""
    need_board(board)
    free = {}
    last = -1
    while last < len(free):
        last = len(free)
        for place, row in enumerate(board.rows):
            if any([entry >= board.places or entry in free for entry in row]):
                free[place] = True
    return tuple([place for place in range(board.places) if place not in free])


def need_board(value):
    """Raise BadBoard for what is no Board."""
    if not isinstance(value, Board):
        raise BadBoard("board")


def _are_rows(value, homes):
    if not isinstance(value, (list, tuple)) or not 1 <= len(value) <= MOST_PLACES:
        return False
    most = len(value) + homes - 1
    return all([_is_row(row, most) for row in value])


def _is_row(row, most):
    if not isinstance(row, (list, tuple)) or not 1 <= len(row) <= MOST_ENTRIES:
        return False
    return all([is_within(entry, 0, most) for entry in row])


def _row_from(items, at):
    # How many places there are is known at the end alone: till then any entry that some
    # board has can stand.
    most = MOST_PLACES + MOST_HOMES - 1
    row = [number_at(items, at, 0, most)]
    at += 1
    while at < len(items) and items[at] != "/" and len(row) < MOST_ENTRIES:
        row.append(number_at(items, at, 0, most))
        at += 1
    return row, at
