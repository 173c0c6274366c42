"""Why so many boxes cannot be shared."""

from evenboxes.orders import check_order
from evenboxes.sharing import possible
from evenboxes.valid import check_number


def reason(order, boxes):
    """None if so many are possible, otherwise the word for what is in the way."""
    check_order(order)
    check_number(boxes)
    numbers = possible(order)
    if boxes in numbers:
        return None
    if not numbers:
        return "nothing"
    if boxes % numbers.divisor != 0:
        return "multiples"
    return "not"
