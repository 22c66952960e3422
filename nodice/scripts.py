"""Lists of orders, told to a desk one behind another."""

from nodice.desk import Desk
from nodice.errors import BadNumber, BadPaper, BadText, Misfit, TooMany

MOST_ORDERS = 200


def answers(orders):
    """The answers of a new Desk to orders, told one behind another; errors stand in their place."""
    if not isinstance(orders, (list, tuple)) or len(orders) > MOST_ORDERS:
        raise BadPaper("orders")
    desk = Desk()
    found = []
    for order in orders:
        found.append(_answer(desk, order))
    return tuple(found)


def _answer(desk, order):
    try:
        return desk.told(order)
    except BadText as fault:
        return f"! BadText {fault.line} {fault.item}"
    except BadNumber as miss:
        return f"! BadNumber {miss.part}"
    except Misfit as misfit:
        return f"! Misfit {misfit.part}"
    except TooMany as excess:
        return f"! TooMany {excess.what} {excess.most}"
