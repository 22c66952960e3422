"""The errors of the package: each keeps its fields, as passed, in attributes."""


def _shown(field):
    # A field may be any value, also one that Python cannot write out: only strings are shown.
    if isinstance(field, str):
        return field
    return "a value"


class HandError(ValueError):
    """The base of all errors of the package."""


class BadNumber(HandError):
    """No such integer, fraction or list of them."""

    def __init__(self, part):
        HandError.__init__(self, f"no right number: {_shown(part)}")
        self.part = part


class BadHeaps(HandError):
    """No heaps."""

    def __init__(self, part):
        HandError.__init__(self, f"no right heaps: {_shown(part)}")
        self.part = part


class BadLine(HandError):
    """No Line."""

    def __init__(self, part):
        HandError.__init__(self, f"no right line: {_shown(part)}")
        self.part = part


class BadLook(HandError):
    """No Look, or no rows of one."""

    def __init__(self, part):
        HandError.__init__(self, f"no right look: {_shown(part)}")
        self.part = part


class BadBoard(HandError):
    """No Board, or no part of one."""

    def __init__(self, part):
        HandError.__init__(self, f"no right board: {_shown(part)}")
        self.part = part


class BadWorld(HandError):
    """No World."""

    def __init__(self, part):
        HandError.__init__(self, f"no right world: {_shown(part)}")
        self.part = part


class BadGame(HandError):
    """No Game."""

    def __init__(self, part):
        HandError.__init__(self, f"no right game: {_shown(part)}")
        self.part = part


class BadPaper(HandError):
    """No such list of orders."""

    def __init__(self, part):
        HandError.__init__(self, f"no right paper: {_shown(part)}")
        self.part = part


class Misfit(HandError):
    """Values, each right alone, that do not fit together."""

    def __init__(self, part):
        HandError.__init__(self, f"does not fit: {_shown(part)}")
        self.part = part


class TooMany(HandError):
    """More than most."""

    def __init__(self, what, most):
        HandError.__init__(self, f"too many {_shown(what)}")
        self.what = what
        self.most = most


class BadText(HandError):
    """A text with an item that cannot stand where it stands."""

    def __init__(self, line, item):
        HandError.__init__(self, "an item cannot stand in the text, or is missing")
        self.line = line
        self.item = item
