"""A desk, which is told orders and answers them."""

from nodice.desk_lines import read_order
from nodice.errors import Misfit, TooMany
from nodice.heaps import chips_in
from nodice.led import game_odds
from nodice.lines import Line, hand_at
from nodice.means import mean_at
from nodice.odds import Shut, odds
from nodice.pairs import less
from nodice.pictures import picture
from nodice.reaches import reach_by, reach_of
from nodice.told_gaps import counts_of
from nodice.worlds import MOST_STEPS, World
from nodice.worths import told_bound
from nodice.worths_of_looks import look_gap, look_worth

MOST_TICKS = 200


def _start(has, heaps, lefts):
    new = {**has, "heaps": heaps, "lefts": lefts, "line": Line(heaps, lefts)}
    return new, str(chips_in(heaps))


def _tick(has, many):
    if has["line"].tick + many > MOST_TICKS:
        raise TooMany("ticks", MOST_TICKS)
    line = has["line"].copy()
    line.forward(many)
    return {**has, "line": line}, str(line.tick)


def _look(has, look):
    reach = _written(reach_of(look))
    return {**has, "look": look, "reach": reach}, reach


def _board(has, board):
    world = World(board, [0] * board.places)
    return {**has, "world": world}, str(board.places)


def _play(has, place):
    world = has["world"].copy()
    home = world.play(place, MOST_STEPS)
    return {**has, "world": world}, str(home)


def _heap(has, spot):
    return str(has["line"].heap_at(spot))


def _hand(has, spot):
    return "left" if hand_at(has["line"], spot) < 0 else "right"


def _mean(has, spot):
    return _written(_mean_now(has, spot))


def _gap(has, spot):
    return _written(less((has["line"].heap_at(spot), 1), _mean_now(has, spot)))


def _picture(has, low, high):
    return picture(has["line"], low, high)


def _reach(has):
    return has["reach"]


def _worth(has):
    return str(look_worth(has["look"], has["heaps"], has["lefts"]))


def _off(has):
    return _written(look_gap(has["look"], has["heaps"], has["lefts"]))


def _reaches(has):
    return _row_of(reach_by(has["look"], has["lefts"]))


def _adds(has, spot):
    return _written(counts_of(has["look"], has["heaps"], has["lefts"], spot))


def _wins(has):
    return " ".join([str(many) for many in has["world"].wins])


def _hands(has):
    return " ".join([str(hand) for hand in has["world"].hands])


def _odds(has, home):
    told = odds(has["world"].board, home)
    if isinstance(told, Shut):
        return "shut"
    return _row_of(told.shares)


def _bound(has, home):
    return _written(told_bound(has["world"].board, home).total)


def _game(_, game):
    return _row_of(game_odds(game))


# Orders that are kept lead to what the desk has behind them, and their answer.
KEPT = {"start": _start, "tick": _tick, "look": _look, "board": _board, "play": _play}
# Other orders lead to their answer alone.
ASKED = {
    "heap": _heap, "hand": _hand, "mean": _mean, "gap": _gap, "picture": _picture, "reach": _reach,
    "worth": _worth, "off": _off, "reaches": _reaches, "adds": _adds, "wins": _wins, "hands": _hands,
    "odds": _odds, "bound": _bound, "game": _game,
}
NEEDED = {
    "reach": "look", "worth": "look", "off": "look", "reaches": "look", "adds": "look",
    "play": "world", "wins": "world", "hands": "world", "odds": "world", "bound": "world",
}


class Desk:
    """A start and its line, a look, a world, and the log of the orders that led to them.

    What the desk has is never changed, but exchanged: so what it had ahead of each order of its
    log can be given back, and shared with a twin.
    """

    def __init__(self):
        self.log = ()
        self.has = {
            "heaps": (), "lefts": (), "line": Line([], []), "look": None, "reach": "", "world": None,
        }
        self.earlier = ()

    def __eq__(self, other):
        return isinstance(other, Desk) and self.log == other.log

    def told(self, order):
        """The answer to an order."""
        word, *values = read_order(order)
        if word == "undo":
            return _taken_back(self)
        if word in NEEDED and self.has[NEEDED[word]] is None:
            raise Misfit(NEEDED[word])
        if word in ASKED:
            asked = ASKED[word]
            return asked(self.has, *values)
        kept = KEPT[word]
        new, answer = kept(self.has, *values)
        self.earlier = (*self.earlier, self.has)
        self.has = new
        self.log = (*self.log, order)
        return answer

    def twin(self):
        """An equal Desk that goes its own way."""
        other = Desk()
        other.log = self.log
        other.has = self.has
        other.earlier = self.earlier
        return other


def _taken_back(desk):
    if not desk.log:
        return "-"
    order = desk.log[-1]
    desk.log = desk.log[:-1]
    desk.has = desk.earlier[-1]
    desk.earlier = desk.earlier[:-1]
    return order


def _mean_now(has, spot):
    return mean_at(has["heaps"], spot, has["line"].tick)


def _row_of(fractions):
    return " ".join([_written(fraction) for fraction in fractions])


def _written(fraction):
    up, down = fraction
    return f"{up}/{down}"
