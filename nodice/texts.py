"""Reading texts: items with single blanks between."""

from nodice.checks import is_within
from nodice.errors import BadText

MOST_DIGITS = 140


def items_of(text):
    """The items of a text; an empty one is an item, too."""
    if not isinstance(text, str):
        raise BadText(0, 0)
    return text.split(" ")


def number_at(items, at, least, most):
    """The integer at an index of the items, within bounds; BadText if none stands there."""
    if at >= len(items) or not _is_number(items[at]):
        raise BadText(0, at)
    number = int(items[at])
    if not is_within(number, least, most):
        raise BadText(0, at)
    return number


def need_word(items, at, word):
    """Raise BadText unless the word stands at this index of the items."""
    if at >= len(items) or items[at] != word:
        raise BadText(0, at)


def need_end(items, at):
    """Raise BadText if an item stands at this index: it is one too many."""
    if at < len(items):
        raise BadText(0, at)


def _is_number(item):
    digits = item.removeprefix("-")
    # Digits of other scripts are digits for isdigit, too.
    if not digits.isascii() or not digits.isdigit() or len(digits) > MOST_DIGITS:
        return False
    if digits.startswith("0"):
        return item == "0"
    return True
