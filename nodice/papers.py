"""Papers: answers with what shows them."""


def fixed(value):
    """The value with tuples in the place of lists, all the way in; other values stay."""
    if isinstance(value, (list, tuple)):
        return tuple([fixed(item) for item in value])
    return value


class Paper:
    """A word and its parts; it is true."""

    def __init__(self, word, *parts):
        self.word = fixed(word)
        self.parts = fixed(parts)

    def __eq__(self, other):
        return isinstance(other, Paper) and _are_alike(self, other)


class Denial(Paper):
    """A paper that says no; it is false."""

    def __init__(self, word, *parts):
        self.word = fixed(word)
        self.parts = fixed(parts)

    def __eq__(self, other):
        return isinstance(other, Denial) and _are_alike(self, other)

    def __bool__(self):
        return False


def _are_alike(one, other):
    if one.__class__.__name__ != other.__class__.__name__:
        return False
    # As tuples, so that any values give True or False.
    return (one.word, one.parts) == (other.word, other.parts)
