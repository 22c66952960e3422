"""Worlds: boards on which hands, in the place of chance, send walkers home."""

from nodice.boards import need_board
from nodice.checks import is_within, need_integer
from nodice.errors import BadNumber, BadWorld, Misfit, TooMany

MOST_WALKERS = 200
MOST_STEPS = 10000


class World:
    """A board with a hand at each place, and the walkers that entered."""

    def __init__(self, board, hands):
        need_board(board)
        if not _are_hands(board, hands):
            raise BadNumber("hands")
        self.board = board
        self.hands = tuple(hands)
        self.walkers = ()
        self.wins = (0,) * board.homes
        self.steps = 0

    def __eq__(self, other):
        return isinstance(other, World) and _all_of(self) == _all_of(other)

    def enter(self, place):
        """Let a walker enter at a place; its number."""
        need_place(self.board, place)
        _need_room(self)
        self.walkers = (*self.walkers, place)
        return len(self.walkers) - 1

    def advance(self, walker):
        """Send a walker on by one step; where it stands then."""
        _need_walker(self, walker)
        _need_outside(self, walker)
        entry, hands, steps = _sent(self.board, self.hands, self.walkers[walker], 1)
        _put(self, walker, entry, hands, steps)
        return entry

    def led(self, walker, most):
        """Send a walker on until it is home, by so many steps at most; the home."""
        _need_walker(self, walker)
        need_integer(most, "most", 1, MOST_STEPS)
        _need_outside(self, walker)
        entry, hands, steps = _sent_home(self.board, self.hands, self.walkers[walker], most)
        _put(self, walker, entry, hands, steps)
        return entry - self.board.places

    def play(self, place, most):
        """Let a walker enter at a place, and send it on until it is home; the home."""
        need_place(self.board, place)
        need_integer(most, "most", 1, MOST_STEPS)
        _need_room(self)
        entry, hands, steps = _sent_home(self.board, self.hands, place, most)
        _put(self, self.enter(place), entry, hands, steps)
        return entry - self.board.places

    def copy(self):
        """An equal World that goes its own way."""
        other = World(self.board, self.hands)
        other.walkers = self.walkers
        other.wins = self.wins
        other.steps = self.steps
        return other


def need_world(value):
    """Raise BadWorld for what is no World."""
    if not isinstance(value, World):
        raise BadWorld("world")


def need_place(board, place):
    """Raise BadNumber for no place of a board."""
    need_integer(place, "place", 0, board.places - 1)


def _are_hands(board, value):
    if not isinstance(value, (list, tuple)) or len(value) != board.places:
        return False
    return all([is_within(hand, 0, len(row) - 1) for hand, row in zip(value, board.rows)])


def _all_of(world):
    return (world.board, world.hands, world.walkers, world.wins, world.steps)


def _need_room(world):
    if len(world.walkers) >= MOST_WALKERS:
        raise TooMany("walkers", MOST_WALKERS)


def _need_walker(world, walker):
    need_integer(walker, "walker", 0, len(world.walkers) - 1)


def _need_outside(world, walker):
    if world.walkers[walker] >= world.board.places:
        raise Misfit("home")


def _sent_home(board, hands, place, most):
    entry, hands, steps = _sent(board, hands, place, most)
    if entry < board.places:
        raise TooMany("steps", most)
    return entry, hands, steps


def _sent(board, hands, place, most):
    # Where a walker stands that is sent on from a place by so many steps, or fewer if it is
    # home then, the hands behind it, and how many steps it made. The world is left as it is:
    # who asks may still refuse what came of it.
    hands = list(hands)
    steps = 0
    while place < board.places and steps < most:
        row = board.rows[place]
        hand = hands[place]
        hands[place] = (hand + 1) % len(row)
        place = row[hand]
        steps += 1
    return place, hands, steps


def _put(world, walker, entry, hands, steps):
    world.walkers = (*world.walkers[:walker], entry, *world.walkers[walker + 1:])
    world.hands = tuple(hands)
    world.steps += steps
    if entry >= world.board.places:
        home = entry - world.board.places
        world.wins = (*world.wins[:home], world.wins[home] + 1, *world.wins[home + 1:])
