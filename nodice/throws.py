"""Turns of games: all their outcomes, and what told throws lead to."""

from nodice.checks import is_within
from nodice.errors import BadNumber, Misfit, TooMany
from nodice.games import need_game
from nodice.pairs import added, reduced
from nodice.papers import Denial, Paper

MOST_WAYS = 400
MOST_TURNS = 200
MOST_THROWS = 400
GREATEST_THROW = 18


class Over(Paper):
    """The home to which a game came, and behind how many turns."""

    def __init__(self, home, turns):
        Paper.__init__(self, "over", home, turns)
        self.home, self.turns = self.parts


class Open(Denial):
    """The standing of a game that is not over behind so many turns."""

    def __init__(self, standing, turns):
        Denial.__init__(self, "open", standing, turns)
        self.standing, self.turns = self.parts


def outcomes(game, standing):
    """Pairs (standing, share) and pairs (home, share), ascending, of a turn from a standing."""
    need_game(game)
    if not _is_standing(game, standing):
        raise BadNumber("standing")
    standings, homes = {}, {}
    for at, numbers, share in _ways_from(game, standing):
        found, outcome = standings, tuple(numbers)
        if at < len(game.plan):
            found, outcome = homes, game.plan[at][1]
        found[outcome] = added(found.get(outcome, (0, 1)), share)
    return tuple(sorted(standings.items())), tuple(sorted(homes.items()))


def told(game, throws):
    """The Over or the Open of a game with these throws, turn by turn."""
    need_game(game)
    if not _are_throws(throws):
        raise BadNumber("throws")
    numbers = list(game.begins)
    for turn, row in enumerate(throws):
        at = _ended_turn(game, numbers, row)
        if at < len(game.plan):
            if turn + 1 < len(throws):
                raise Misfit("throws")
            return Over(game.plan[at][1], len(throws))
    return Open(numbers, len(throws))


def _is_standing(game, value):
    if not isinstance(value, (list, tuple)) or len(value) != len(game.names):
        return False
    return all([is_within(number, low, high) for number, low, high in zip(value, game.lows, game.highs)])


def _are_throws(value):
    if not isinstance(value, (list, tuple)) or len(value) > MOST_TURNS:
        return False
    return all([_is_row_of_throws(row) for row in value])


def _is_row_of_throws(row):
    if not isinstance(row, (list, tuple)) or len(row) > MOST_THROWS:
        return False
    return all([is_within(throw, 1, GREATEST_THROW) for throw in row])


def _ended_turn(game, numbers, row):
    # The numbers are left as the turn leaves them; the index of the plan at which it ended.
    at = _gone_on(game, 0, numbers)
    for throw in row:
        if not _is_throw(game, at) or throw > _sides_at(game, at):
            raise Misfit("throws")
        at = _gone_on(game, _thrown(game, at, numbers, throw), numbers)
    if _is_throw(game, at):
        raise Misfit("throws")
    return at


def _ways_from(game, standing):
    # For each way the index of the plan at which it ends, its numbers and its share.
    ended = []
    waiting = [(0, standing, 1, 1)]
    while waiting:
        at, standing, up, down = waiting.pop()
        numbers = list(standing)
        at = _gone_on(game, at, numbers)
        if _is_throw(game, at):
            down *= _sides_at(game, at)
            for throw, often in _unlike_throws(game, at):
                later = list(numbers)
                waiting.append((_thrown(game, at, later, throw), later, up * often, down))
        else:
            ended.append((at, numbers, reduced(up, down)))
        # Each that waits leads to one way at least.
        if len(ended) + len(waiting) > MOST_WAYS:
            raise TooMany("ways", MOST_WAYS)
    return ended


def _is_throw(game, at):
    return at < len(game.plan) and game.plan[at][0] in ("dice", "chance")


def _sides_at(game, at):
    step = game.plan[at]
    if step[0] == "dice":
        return step[1]
    return step[1] + step[2]


def _unlike_throws(game, at):
    # Throws that lead on in unlike ways, and how many throws go each of these ways.
    step = game.plan[at]
    if step[0] == "dice":
        return [(throw, 1) for throw in range(1, step[1] + 1)]
    return [(1, step[1]), (step[1] + 1, step[2])]


def _thrown(game, at, numbers, throw):
    # The index of the plan at which the turn goes on behind a throw.
    step = game.plan[at]
    if step[0] == "dice":
        _stand(game, numbers, step[2], throw)
        return at + 1
    if throw <= step[1]:
        return at + 1
    return step[3]


def _gone_on(game, at, numbers):
    # Deeds are done till a throw or a home is come to, or the end of the plan; its index.
    plan = game.plan
    while at < len(plan):
        step = plan[at]
        word = step[0]
        if word in ("dice", "chance", "home"):
            return at
        if word == "leap":
            at = step[1]
        elif word == "if":
            at = at + 1 if _holds(step[1], numbers) else step[2]
        else:
            _stand(game, numbers, step[1], _number_behind(step, numbers))
            at += 1
    return at


def _number_behind(step, numbers):
    word, index, other = step
    if word == "set":
        return other
    if word == "up":
        return numbers[index] + other
    if word == "down":
        return numbers[index] - other
    if word == "copy":
        return numbers[other]
    return numbers[index] + numbers[other]


def _stand(game, numbers, index, number):
    numbers[index] = min(max(number, game.lows[index]), game.highs[index])


def _holds(test, numbers):
    wanted, index, sign, by_name, other = test
    if by_name:
        other = numbers[other]
    if sign == "=":
        return wanted == (numbers[index] == other)
    return wanted == (numbers[index] < other)
