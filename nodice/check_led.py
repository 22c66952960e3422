"""Whether a Led is right."""

from nodice.boards import Board
from nodice.checks import are_integers
from nodice.dealt import is_even
from nodice.led import Led, standings_and_shares


def shows_led(game, value):
    """Whether a value is the Led of a board that is led by a game."""
    standings, tables = standings_and_shares(game)
    if not isinstance(value, Led) or value.__class__.__name__ != "Led":
        return False
    if not isinstance(value.board, Board) or not _are_just(value.standings, standings):
        return False
    if value.board.homes != game.homes or value.board.places != len(standings):
        return False
    return all([_is_row_for(table, row) for table, row in zip(tables, value.board.rows)])


def _are_just(value, standings):
    # True and 1.0 are equal to 1, but no integers: so the kinds are asked, too.
    if not isinstance(value, tuple) or len(value) != len(standings):
        return False
    return all([are_integers(one, len(other)) and one == other for one, other in zip(value, standings)])


def _is_row_for(table, row):
    entries = [entry for entry, _ in table]
    if not all([entry in entries for entry in row]):
        return False
    often = [row.count(entry) for entry in entries]
    for many, (_, share) in zip(often, table):
        if many * share[1] != len(row) * share[0]:
            return False
    return is_even(often, [entries.index(entry) for entry in row])
