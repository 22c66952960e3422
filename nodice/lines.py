"""The line: heaps are sent left and right by turns, tick by tick."""

from nodice.checks import need_integer
from nodice.errors import BadLine, BadText
from nodice.heaps import need_heaps, need_lefts, need_one_colour
from nodice.texts import items_of, need_word, number_at

MOST_FORWARD = 200


class Line:
    """A line with a start, which goes on tick by tick."""

    def __init__(self, heaps, lefts):
        need_heaps(heaps, "heaps")
        need_lefts(lefts)
        need_one_colour(heaps)
        self.tick = 0
        self.heaps = tuple(sorted([(spot, many) for spot, many in heaps]))
        self.lefts = tuple(sorted(list(lefts)))

    def __eq__(self, other):
        if not isinstance(other, Line):
            return False
        return self.tick == other.tick and self.heaps == other.heaps and self.lefts == other.lefts

    def __str__(self):
        heaps = [f"{spot} {many}" for spot, many in self.heaps]
        lefts = [f"{spot}" for spot in self.lefts]
        return " ".join([f"{self.tick}", "/", *heaps, "/", *lefts])

    @staticmethod
    def read(text):
        """The Line whose text this is, whether or not a start leads there."""
        items = items_of(text)
        tick = number_at(items, 0, 0, None)
        need_word(items, 1, "/")
        heaps, at = _heaps_from(items, 2)
        need_word(items, at, "/")
        return _line_with(tick, heaps, _lefts_from(items, at + 1))

    def advance(self):
        """Let a tick go by; the new tick."""
        return self.forward(1)

    def forward(self, many):
        """Let so many ticks go by; the new tick."""
        need_integer(many, "many", 0, MOST_FORWARD)
        heaps = list(self.heaps)
        lefts = {spot: True for spot in self.lefts}
        for _ in range(many):
            heaps = sent_on(heaps, lefts)
        self.tick += many
        self.heaps = tuple(heaps)
        self.lefts = tuple(sorted(lefts))
        return self.tick

    def heap_at(self, spot):
        """How many chips lie on a spot."""
        need_integer(spot, "spot", None, None)
        at = _first_from(self.heaps, (spot, 0))
        if at < len(self.heaps) and self.heaps[at][0] == spot:
            return self.heaps[at][1]
        return 0

    def copy(self):
        """An equal Line that goes its own way."""
        return _line_with(self.tick, self.heaps, self.lefts)


def hand_at(line, spot):
    """-1 if the hand of a spot shows to the left, 1 if to the right."""
    need_line(line)
    need_integer(spot, "spot", None, None)
    at = _first_from(line.lefts, spot)
    if at < len(line.lefts) and line.lefts[at] == spot:
        return -1
    return 1


def sendings(line):
    """What the next tick sends: triples (spot, how many to the left, how many to the right)."""
    need_line(line)
    sent = []
    for spot, many in line.heaps:
        first = many - many // 2
        if hand_at(line, spot) < 0:
            sent.append((spot, first, many - first))
        else:
            sent.append((spot, many - first, first))
    return tuple(sent)


def moved_line(line, by):
    """A Line at the same tick with all heaps and lefts so much farther right."""
    need_line(line)
    need_integer(by, "by", None, None)
    heaps = [(spot + by, many) for spot, many in line.heaps]
    return _line_with(line.tick, heaps, [spot + by for spot in line.lefts])


def need_line(value):
    """Raise BadLine for what is no Line."""
    if not isinstance(value, Line):
        raise BadLine("line")


def sent_on(heaps, lefts):
    """Heaps, ascending, behind one tick more; in lefts, a dict, the hands are turned."""
    # No two heaps are neighbours: so only the chips that the heap before sent to the right
    # can meet those that this one sends to the left.
    sent = []
    waiting_at, waiting = None, 0
    for spot, many in heaps:
        to_left = to_right = many // 2
        if many % 2:
            if spot in lefts:
                to_left += 1
                del lefts[spot]
            else:
                to_right += 1
                lefts[spot] = True
        if waiting_at == spot - 1:
            to_left += waiting
        elif waiting:
            sent.append((waiting_at, waiting))
        if to_left:
            sent.append((spot - 1, to_left))
        waiting_at, waiting = spot + 1, to_right
    if waiting:
        sent.append((waiting_at, waiting))
    return sent


def _line_with(tick, heaps, lefts):
    # A line behind some ticks may have more heaps, and farther off, than a start.
    line = Line([], [])
    line.tick = tick
    line.heaps = tuple(heaps)
    line.lefts = tuple(lefts)
    return line


def _first_from(rows, wanted):
    # A line may have thousands of heaps: a search by halves keeps each question short.
    low, high = 0, len(rows)
    while low < high:
        middle = (low + high) // 2
        if rows[middle] < wanted:
            low = middle + 1
        else:
            high = middle
    return low


def _heaps_from(items, at):
    heaps = []
    while at < len(items) and items[at] != "/":
        spot = number_at(items, at, None, None)
        if heaps and (spot <= heaps[-1][0] or (spot - heaps[-1][0]) % 2):
            raise BadText(0, at)
        heaps.append((spot, number_at(items, at + 1, 1, None)))
        at += 2
    return heaps, at


def _lefts_from(items, at):
    lefts = []
    for index in range(at, len(items)):
        spot = number_at(items, index, None, None)
        if lefts and spot <= lefts[-1]:
            raise BadText(0, index)
        lefts.append(spot)
    return lefts
