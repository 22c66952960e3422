"""Games for tests: drawn ones, a plain way to play them, and a plain way to find faults in their texts."""

import re
from fractions import Fraction

NUMBER = re.compile("0|-?[1-9][0-9]{0,139}", re.ASCII)
NAME = re.compile("[a-z]{1,8}", re.ASCII)
WORDS = "numbers turn set up down copy add dice chance else if not home".split()

PURSE = (
    "numbers { purse 0 3 1 } turn { chance 1 1 { up purse 1 } else { down purse 1 }"
    " if purse = 0 { home 0 } if purse = 3 { home 1 } }"
)
LADDER = "numbers { at 0 4 0 eyes 1 6 1 } turn { dice 6 eyes add at eyes set eyes 1 if at = 4 { home 0 } }"
STUCK = "numbers { x 0 1 0 } turn { if x = 1 { home 0 } }"
# A game with each deed and each condition, braces in braces, with `else` and without.
FULL = (
    "numbers { a 0 5 2 bb -3 3 -1 ccc -99 99 0 d 7 7 7 } turn { set a 3 up bb 2 down bb 99 copy ccc d add ccc a dice 3 a"
    " chance 2 7 { if a = 2 { home 3 } else { if not a < bb { up a 1 } } } else { if not not a = ccc { chance 1 9 { } else"
    " { home 8 } } } if bb < -1 { dice 12 ccc } else { } if d < ccc { set d -99 } home 0 }"
)

# What stands behind each word of a deed, as wants of `fault_of`.
WANTS = {
    "set": ["known", (-99, 99)], "up": ["known", (1, 99)], "down": ["known", (1, 99)], "copy": ["known", "known"],
    "add": ["known", "known"], "dice": [(2, 12), "known"], "home": [(0, 8)], "if": ["cond", "{", "deeds", "else?"],
    "chance": [(1, 9), (1, 9), "{", "deeds", "else", "{", "deeds"],
}


def is_between(item, least, most):
    return NUMBER.fullmatch(item) is not None and least <= int(item) <= most


def fault_of(items):
    """The index that is told for a text of these items; None for the text of a Game."""
    wants = ["numbers", "{", "new", "turn", "{", "deeds"]
    names, opened, homes, low, at = [], 0, 0, 0, 0
    while wants and at < len(items):
        if at == 400:
            return at
        item, want = items[at], wants.pop(0)
        if want == "new" and item == "}" and names:
            opened -= 1
        elif want == "new":
            if not NAME.fullmatch(item) or item in WORDS or item in names or len(names) == 4:
                return at
            names.append(item)
            wants[:0] = ["low", "high", "begin", "new"]
        elif want in ("low", "high", "begin"):
            least, most = {"low": (-99, 99), "high": (low, 99), "begin": (low, at and high_of(items, at))}[want]
            if not is_between(item, least, most):
                return at
            low = int(item) if want == "low" else low
        elif want == "deeds" and item == "}":
            opened -= 1
        elif want == "deeds":
            if item not in WANTS:
                return at
            homes += item == "home"
            wants[:0] = [*WANTS[item], "deeds"]
        elif want == "else?":
            if item != "else":
                continue
            wants[:0] = ["{", "deeds"]
        elif want == "cond":
            if item != "not" and item not in names:
                return at
            wants[:0] = ["cond"] if item == "not" else ["sign", "other"]
        elif want == "{":
            opened += 1
            if item != "{" or opened == 13:
                return at
        elif not fits(item, want, names):
            return at
        at += 1
    while wants and wants[0] == "else?":
        wants.pop(0)
    if wants:
        return min(at, 400)
    if at < len(items):
        return at
    return None if homes else len(items) - 1


def high_of(items, at):
    """The HIGH ahead of a BEGIN that stands at this index, if it is one."""
    return int(items[at - 1]) if NUMBER.fullmatch(items[at - 1]) else 99


def fits(item, want, names):
    if want == "known":
        return item in names
    if want == "sign":
        return item in ("=", "<")
    if want == "other":
        return item in names or is_between(item, -99, 99)
    if isinstance(want, tuple):
        return is_between(item, *want)
    return item == want


def tree_of(text):
    """Of the text of a Game the numbers, a list of (name, low, high, begin), and the deeds, a tree of lists."""
    items = text.split(" ")
    end = items.index("}")
    told = items[2:end]
    numbers = [(told[k], *map(int, told[k + 1:k + 4])) for k in range(0, len(told), 4)]
    ahead = items[end + 3:]
    deeds = block_from(ahead)
    assert ahead == []
    return numbers, deeds


def block_from(ahead):
    """Deeds up to the closing brace, which is taken away, too."""
    deeds = []
    while True:
        word = ahead.pop(0)
        if word == "}":
            return deeds
        if word == "home":
            deeds.append([word, int(ahead.pop(0))])
        elif word == "chance":
            first, second = int(ahead.pop(0)), int(ahead.pop(0))
            ahead.pop(0)
            one = block_from(ahead)
            del ahead[:2]
            deeds.append([word, first, second, one, block_from(ahead)])
        elif word == "if":
            cond = []
            while ahead[0] != "{":
                cond.append(ahead.pop(0))
            ahead.pop(0)
            one, other = block_from(ahead), []
            if ahead[:1] == ["else"]:
                del ahead[:2]
                other = block_from(ahead)
            deeds.append([word, cond, one, other])
        else:
            deeds.append([word, ahead.pop(0), ahead.pop(0)])


class Model:
    """A game played by its tree, throw by throw."""

    def __init__(self, text):
        self.numbers, self.deeds = tree_of(text)
        self.bounds = {name: (low, high) for name, low, high, _ in self.numbers}
        self.begin = tuple(begin for _, _, _, begin in self.numbers)

    def all_throws(self, standing):
        """Quadruples (outcome, share, throws, choices) of all rows of throws of a turn, one by one.

        The outcome is ("home", k) or the standing; choices tells which way each throw went.
        """
        values = dict(zip(self.bounds, standing))
        for values, home, share, throws, choices in self.run(self.deeds, values):
            outcome = tuple(values.values()) if home is None else ("home", home)
            yield outcome, share, throws, choices

    def outcomes(self, standing):
        """As `outcomes` tells it, and how many ways there are."""
        shares, ways = {}, set()
        for outcome, share, _, choices in self.all_throws(standing):
            shares[outcome] = shares.get(outcome, 0) + share
            ways.add(tuple(choices))
        standings = sorted((outcome, share) for outcome, share in shares.items() if outcome[:1] != ("home",))
        homes = sorted((outcome[1], share) for outcome, share in shares.items() if outcome[:1] == ("home",))
        return standings, homes, len(ways)

    def run(self, deeds, values):
        if not deeds:
            yield values, None, Fraction(1), [], []
            return
        for behind, home, share, throws, choices in self.one(deeds[0], values):
            if home is not None:
                yield behind, home, share, throws, choices
                continue
            for last, end, other, more, chosen in self.run(deeds[1:], behind):
                yield last, end, share * other, throws + more, choices + chosen

    def one(self, deed, values):
        word = deed[0]
        if word == "home":
            yield values, deed[1], Fraction(1), [], []
        elif word == "dice":
            for throw in range(1, int(deed[1]) + 1):
                yield self.put(values, deed[2], throw), None, Fraction(1, int(deed[1])), [throw], [throw]
        elif word == "chance":
            whole = deed[1] + deed[2]
            for throw in range(1, whole + 1):
                first = throw <= deed[1]
                for behind, home, share, throws, choices in self.run(deed[3] if first else deed[4], values):
                    yield behind, home, share / whole, [throw, *throws], [first, *choices]
        elif word == "if":
            yield from self.run(deed[2] if self.holds(deed[1], values) else deed[3], values)
        else:
            yield self.put(values, deed[1], self.number(deed, values)), None, Fraction(1), [], []

    def number(self, deed, values):
        word, name, other = deed
        if word == "copy":
            return values[other]
        if word == "add":
            return values[name] + values[other]
        return {"set": 0, "up": values[name], "down": values[name]}[word] + int(other) * (-1 if word == "down" else 1)

    def put(self, values, name, number):
        low, high = self.bounds[name]
        return {**values, name: low if number < low else high if number > high else number}

    def holds(self, cond, values):
        if cond[0] == "not":
            return not self.holds(cond[1:], values)
        name, sign, other = cond
        number = values[other] if other in values else int(other)
        return values[name] == number if sign == "=" else values[name] < number


def some_game(maker, most_throws=3, span=7):
    """The text of a drawn game: some numbers, and deeds with not too many throws in a row."""
    names = maker.sample(["a", "b", "at", "purse", "abcdefgh"], maker.randrange(1, 4))
    numbers = []
    for name in names:
        low = maker.randrange(-3, 3)
        high = low + maker.randrange(span)
        numbers.append(f"{name} {low} {high} {maker.randrange(low, high + 1)}")
    deeds = some_deeds(maker, names, most_throws, 2)
    last = f"if {some_cond(maker, names)} {{ home {maker.randrange(4)} }}"
    return f"numbers {{ {' '.join(numbers)} }} turn {{ {' '.join([*deeds, last])} }}"


def some_cond(maker, names):
    other = maker.choice([*names, str(maker.randrange(-3, 6))])
    return "not " * maker.choice([0, 0, 1, 2]) + f"{maker.choice(names)} {maker.choice('=<')} {other}"


def some_deeds(maker, names, throws, depth):
    deeds = []
    for _ in range(maker.randrange(1, 6)):
        word = maker.choice("set up up down down copy add add dice dice chance chance if if home".split())
        one, other = maker.choice(names), maker.choice(names)
        if word in ("copy", "add"):
            deeds.append(f"{word} {one} {other}")
        elif word in ("set", "up", "down"):
            deeds.append(f"{word} {one} {maker.randrange(1, 4)}")
        elif word == "dice" and throws:
            throws -= 1
            deeds.append(f"dice {maker.randrange(2, 5)} {one}")
        elif word == "home" and maker.random() < 0.2:
            deeds.append(f"home {maker.randrange(9)}")
        elif word in ("if", "chance") and depth:
            if word == "chance" and not throws:
                continue
            throws -= word == "chance"
            first = " ".join(["{", *some_deeds(maker, names, throws and 1, depth - 1), "}"])
            second = " ".join(["{", *some_deeds(maker, names, throws and 1, depth - 1), "}"])
            throws = max(0, throws - 1)
            if word == "chance":
                deeds.append(f"chance {maker.randrange(1, 4)} {maker.randrange(1, 4)} {first} else {second}")
            elif maker.random() < 0.5:
                deeds.append(f"if {some_cond(maker, names)} {first}")
            else:
                deeds.append(f"if {some_cond(maker, names)} {first} else {second}")
    return deeds


def some_walk(maker):
    """The text of a drawn game that comes to many standings: home at either end of a row of spots."""
    last = maker.randrange(3, 14)
    moves = [f"{maker.choice(['up', 'down'])} x {maker.randrange(1, 4)}" for _ in range(3)]
    turned = "if y = 0 { set y 1 } else { set y 0 }"
    first, second = maker.randrange(1, 5), maker.randrange(1, 5)
    deeds = [f"chance {first} {second} {{ {moves[0]} }} else {{ down x 1 {maker.choice([turned, moves[1]])} }}"]
    if maker.random() < 0.5:
        deeds.append(f"if y = 1 {{ dice {maker.randrange(2, 5)} z add x z {moves[2]} set z 1 }}")
    if maker.random() < 0.5:
        deeds.append(f"if x = {maker.randrange(last)} {{ chance 1 {maker.randrange(1, 3)} {{ {turned} }} else {{ up x 1 }} }}")
    maker.shuffle(deeds)
    homes = f"if x = 0 {{ home {maker.randrange(3)} }} if x = {last} {{ home {maker.randrange(3)} }}"
    return f"numbers {{ x 0 {last} {maker.randrange(1, last)} y 0 1 0 z 1 4 1 }} turn {{ {' '.join(deeds)} {homes} }}"
