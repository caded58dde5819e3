"""A town's orders as a text."""

from mailslots.checks import check_days, check_homes, check_orders, check_town
from mailslots.errors import BadText

WORD = "order"
NUMBERS = 5
MOST_FIGURES = 4


def written(town):
    """Tell the town's orders as a text, a row for each."""
    check_town(town)
    _, _, orders = town
    return "\n".join([written_row(order) for order in orders])


def with_orders(town, text):
    """Tell the town with the orders that the text writes in the place of its own."""
    # The town's own orders aren't in the told town, so nothing is asked of them.
    days, homes, _ = town
    check_days(days)
    check_homes(days, homes)
    orders = orders_in(text)
    check_orders(days, homes, orders)
    return days, homes, orders


def written_row(order):
    """Tell the order as a row of a text."""
    return " ".join([WORD] + [str(number) for number in order])


def orders_in(text):
    """Tell the orders that the text writes, whether they can be or not."""
    # The empty text has no row, whereas to split it would tell an empty one.
    if text == "":
        return ()
    orders = []
    for row, line in enumerate(text.split("\n")):
        parts = line.split(" ")
        if not is_order_row(parts):
            raise BadText(row)
        orders.append(tuple([int(part) for part in parts[1:]]))
    return tuple(orders)


def is_order_row(parts):
    """Tell whether these parts of a row are those of an order."""
    if len(parts) != 1 + NUMBERS or parts[0] != WORD:
        return False
    for part in parts[1:]:
        if not is_number(part):
            return False
    return True


def is_number(part):
    """Tell whether the part is a number of one to four figures without a needless one."""
    if not part.isascii() or not part.isdigit() or len(part) > MOST_FIGURES:
        return False
    return part[0] != "0" or part == "0"
