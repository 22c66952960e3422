"""Games of dice, told in a small language."""

from nodice.checks import is_within
from nodice.errors import BadGame, BadText
from nodice.texts import items_of, need_end, need_word, number_at

MOST_ITEMS = 400
MOST_NUMBERS = 4
MOST_BRACES = 12
MOST_SIGNS = 8
FARTHEST = 99
WORDS = (
    "numbers", "turn", "set", "up", "down", "copy", "add", "dice", "chance", "else", "if", "not", "home",
)
# What stands behind the word of a deed: names, and integers within bounds.
DEEDS = {
    "set": ("name", (-99, 99)), "up": ("name", (1, 99)), "down": ("name", (1, 99)), "copy": ("name", "name"),
    "add": ("name", "name"), "dice": ((2, 12), "name"), "home": ((0, 8),),
}
CHANCES = ((1, 9), (1, 9))


class Game:
    """Numbers, and the deeds of a turn.

    The plan has the deeds of a turn one behind another, as tuples; names are told by the indexes
    of their numbers. Of two branches the second one stands behind the first one: "if" and "chance"
    tell last where it begins, "leap", which ends the first one, where the second one ends.
    """

    def __init__(self, text):
        items = items_of(text)
        # A 401st item cannot stand, whatever it is: so the text ends there, as if it were missing.
        told = items[:MOST_ITEMS]
        numbers, at = _numbers_from(told)
        names = {number[0]: index for index, number in enumerate(numbers)}
        need_word(told, at, "turn")
        plan = []
        need_end(items, _braces_from(told, at + 1, names, plan, 0))
        homes = [step[1] for step in plan if step[0] == "home"]
        if not homes:
            raise BadText(0, len(items) - 1)
        self.text = text
        self.names = tuple(names)
        self.lows = tuple([number[1] for number in numbers])
        self.highs = tuple([number[2] for number in numbers])
        self.begins = tuple([number[3] for number in numbers])
        self.homes = max(homes) + 1
        self.plan = tuple(plan)

    def __eq__(self, other):
        return isinstance(other, Game) and self.text == other.text

    def __str__(self):
        return f"{self.text}"

    @staticmethod
    def read(text):
        """The Game whose text this is."""
        return Game(text)


def need_game(value):
    """Raise BadGame for what is no Game."""
    if not isinstance(value, Game):
        raise BadGame("game")


def _numbers_from(items):
    # The numbers (name, low, high, begin), and the index behind their brace.
    need_word(items, 0, "numbers")
    need_word(items, 1, "{")
    numbers = [_number_from(items, 2, [])]
    at = 6
    while at < len(items) and items[at] != "}":
        if len(numbers) == MOST_NUMBERS:
            raise BadText(0, at)
        numbers.append(_number_from(items, at, numbers))
        at += 4
    need_word(items, at, "}")
    return numbers, at + 1


def _number_from(items, at, ahead):
    if at >= len(items) or not _is_name(items[at]) or items[at] in [number[0] for number in ahead]:
        raise BadText(0, at)
    low = number_at(items, at + 1, -FARTHEST, FARTHEST)
    high = number_at(items, at + 2, low, FARTHEST)
    return (items[at], low, high, number_at(items, at + 3, low, high))


def _is_name(item):
    if not is_within(len(item), 1, MOST_SIGNS) or item in WORDS:
        return False
    return item.isascii() and item.isalpha() and item.islower()


def _braces_from(items, at, names, plan, opened):
    # The deeds in braces are put into the plan; the index behind the closing brace. That many
    # braces stand open around them.
    need_word(items, at, "{")
    if opened == MOST_BRACES:
        raise BadText(0, at)
    at += 1
    while at < len(items) and items[at] != "}":
        word = items[at]
        if word in DEEDS:
            step, at = _values_from(items, at + 1, names, DEEDS[word])
            plan.append((word, *step))
        elif word == "if":
            test, at = _test_from(items, at + 1, names)
            at = _branches_from(items, at, names, plan, opened + 1, (word, test))
        elif word == "chance":
            step, at = _values_from(items, at + 1, names, CHANCES)
            at = _branches_from(items, at, names, plan, opened + 1, (word, *step))
        else:
            raise BadText(0, at)
    need_word(items, at, "}")
    return at + 1


def _branches_from(items, at, names, plan, opened, head):
    fork = len(plan)
    plan.append(head)
    at = _braces_from(items, at, names, plan, opened)
    if head[0] == "chance":
        need_word(items, at, "else")
    if at >= len(items) or items[at] != "else":
        plan[fork] = (*head, len(plan))
        return at
    leap = len(plan)
    plan.append(("leap",))
    plan[fork] = (*head, len(plan))
    at = _braces_from(items, at + 1, names, plan, opened)
    plan[leap] = ("leap", len(plan))
    return at


def _values_from(items, at, names, kinds):
    values = []
    for kind in kinds:
        if kind == "name":
            values.append(_index_from(items, at, names))
        else:
            values.append(number_at(items, at, kind[0], kind[1]))
        at += 1
    return values, at


def _index_from(items, at, names):
    if at >= len(items) or items[at] not in names:
        raise BadText(0, at)
    return names[items[at]]


def _test_from(items, at, names):
    # The condition as (wanted, index, sign, whether a name follows, its index or an integer):
    # so many "not", so often what is wanted is turned about.
    wanted = True
    while at < len(items) and items[at] == "not":
        wanted = not wanted
        at += 1
    index = _index_from(items, at, names)
    if at + 1 >= len(items) or items[at + 1] not in ("=", "<"):
        raise BadText(0, at + 1)
    by_name = at + 2 < len(items) and items[at + 2] in names
    if by_name:
        other = names[items[at + 2]]
    else:
        other = number_at(items, at + 2, -FARTHEST, FARTHEST)
    return (wanted, index, items[at + 1], by_name, other), at + 3
