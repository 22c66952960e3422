"""Games led to boards, whose hands throw no dice, and the odds of games."""

from math import lcm

from nodice.boards import Board, shut_lot
from nodice.dealt import MOST_ENTRIES, dealt
from nodice.errors import Misfit, TooMany
from nodice.games import need_game
from nodice.odds import odds_from
from nodice.papers import Paper
from nodice.throws import outcomes

MOST_PLACES = 60


class Led(Paper):
    """A board that is led by a game, and the standings that are its places."""

    def __init__(self, board, standings):
        Paper.__init__(self, "led", board, standings)
        self.board, self.standings = self.parts


def led(game):
    """The Led of a game, with rows as short as can be."""
    standings, tables = standings_and_shares(game)
    return Led(Board(game.homes, [_row_from(table) for table in tables]), standings)


def game_odds(game):
    """The odds of each home from the begin of a game on."""
    board = led(game).board
    if shut_lot(board):
        raise Misfit("game")
    return odds_from(board, 0)


def standings_and_shares(game):
    """The standings that a game can come to, and for each of them pairs (entry, share) of its row."""
    need_game(game)
    places = {game.begins: 0}
    standings = [game.begins]
    found = []
    while len(found) < len(standings):
        later, homes = outcomes(game, standings[len(found)])
        if _shortest([*later, *homes]) > MOST_ENTRIES:
            raise TooMany("row", MOST_ENTRIES)
        for standing, _ in later:
            if standing not in places:
                if len(standings) == MOST_PLACES:
                    raise TooMany("places", MOST_PLACES)
                places[standing] = len(standings)
                standings.append(standing)
        found.append((later, homes))
    return standings, [_table(places, later, homes) for later, homes in found]


def _table(places, later, homes):
    by_place = [(places[standing], share) for standing, share in later]
    return [*by_place, *[(len(places) + home, share) for home, share in homes]]


def _shortest(table):
    # How many entries the shortest row has in which all shares are whole numbers of entries.
    many = 1
    for _, share in table:
        many = lcm(many, share[1])
    return many


def _row_from(table):
    many = _shortest(table)
    weights = [many // share[1] * share[0] for _, share in table]
    return [table[index][0] for index in dealt(weights)]
