"""Whether a Worst is right."""

from nodice.heaps import are_heaps, are_lefts
from nodice.looks import need_look
from nodice.reaches import reach_of
from nodice.worst import Worst
from nodice.worths_of_looks import look_gap


def shows_worst(look, value):
    """Whether a value is a Worst whose heaps and lefts are a worst start of a look."""
    need_look(look, "look")
    if not isinstance(value, Worst) or value.__class__.__name__ != "Worst":
        return False
    if not are_heaps(value.heaps) or not are_lefts(value.lefts):
        return False
    if any([spot % 2 != look.colour for spot, _ in value.heaps]):
        return False
    return look_gap(look, value.heaps, value.lefts) == reach_of(look)
