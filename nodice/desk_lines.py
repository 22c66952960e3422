"""Orders that a desk is told: a word, and what stands behind it."""

from nodice.boards import Board
from nodice.errors import BadText
from nodice.games import Game
from nodice.heaps import FARTHEST, MOST_CHIPS, MOST_HEAPS, MOST_LEFTS
from nodice.looks import Look
from nodice.pictures import MOST_WIDE
from nodice.texts import items_of, need_end, need_word, number_at

# The bounds of the integers behind a word.
NUMBERS = {
    "tick": ((0, 200),), "play": ((0, 59),), "heap": ((None, None),), "hand": ((None, None),),
    "mean": ((None, None),), "gap": ((None, None),), "reach": (), "worth": (), "off": (), "reaches": (),
    "adds": ((None, None),), "wins": (), "hands": (), "odds": ((0, 8),), "bound": ((0, 8),), "undo": (),
}


def read_order(order):
    """The word of an order and its values, a tuple."""
    items = items_of(order)
    word = items[0]
    if word == "start":
        return (word, *_start_from(items))
    if word == "picture":
        return (word, *_spots_from(items))
    if word in ("look", "board", "game"):
        return (word, _told_by_text(word, " ".join(items[1:])))
    if word not in NUMBERS:
        raise BadText(0, 0)
    values = []
    for index, (least, most) in enumerate(NUMBERS[word], start=1):
        values.append(number_at(items, index, least, most))
    need_end(items, len(values) + 1)
    return (word, *values)


def _start_from(items):
    heaps, at = _heaps_from(items)
    need_word(items, at, "/")
    lefts = {}
    for index in range(at + 1, len(items)):
        spot = number_at(items, index, -FARTHEST, FARTHEST)
        if spot in lefts or len(lefts) == MOST_LEFTS:
            raise BadText(0, index)
        lefts[spot] = True
    return tuple(sorted(heaps.items())), tuple(sorted(lefts))


def _heaps_from(items):
    # The heaps, and the index behind them.
    heaps = {}
    at = 1
    while at < len(items) and items[at] != "/":
        spot = number_at(items, at, -FARTHEST, FARTHEST)
        if spot in heaps or len(heaps) == MOST_HEAPS:
            raise BadText(0, at)
        if any([(spot - other) % 2 for other in heaps]):
            raise BadText(0, at)
        heaps[spot] = number_at(items, at + 1, 1, MOST_CHIPS)
        at += 2
    return heaps, at


def _spots_from(items):
    low = number_at(items, 1, None, None)
    high = number_at(items, 2, low, low + MOST_WIDE)
    need_end(items, 3)
    return low, high


def _told_by_text(word, text):
    try:
        if word == "look":
            return Look.read(text)
        if word == "board":
            return Board.read(text)
        return Game.read(text)
    except BadText as fault:
        # The order has its word ahead of the items of the text.
        raise BadText(0, fault.item + 1) from None
