"""Claims for the checker, with certificates that it accepts."""

from evenboxes.errors import InvalidNumber, UnknownName
from evenboxes.filling import can_share
from evenboxes.limits import MOST_BOXES
from evenboxes.orders import check_order, place_of, takes
from evenboxes.plane import flat_of, points_of_things, sides, steps_apart, takers
from evenboxes.prices import price
from evenboxes.sharing import possible, sharing, table
from evenboxes.valid import is_integer_within


def certify_possible(order, boxes):
    """That so many boxes can be shared."""
    shared = sharing(order, boxes)
    if shared is None:
        return None
    return (("possible", str(order), boxes), shared)


def certify_nothing(order):
    """That no number of boxes but 0 can be shared."""
    check_order(order)
    prices = _prices_against_all(order)
    if prices is None:
        return None
    return (("nothing", str(order)), prices)


def certify_unused(order, person, kind):
    """That the person gets a thing of the kind in no sharing."""
    check_order(order)
    person_at = _place(person, order.people)
    kind_at = _place(kind, order.kinds)
    claim = ("unused", str(order), person, kind)
    if not takes(order, person_at, kind_at):
        return (claim, ())
    prices = _prices_against_all(order)
    if prices is not None:
        return (claim, prices)
    prices = _prices_of_unused(order)
    if price(order, prices, person_at, kind_at) == 0:
        return None
    return (claim, prices)


def certify_multiples(order):
    """That all numbers that can be shared are multiples of their divisor."""
    numbers = possible(order)
    if not numbers:
        return None
    lists = [
        (_price_list(order, direction, reached), step)
        for direction, reached, step in steps_apart(order, takers(order))
    ]
    return (("multiples", str(order), numbers.divisor), (_prices_of_unused(order), tuple(lists)))


def certify_not(order, boxes):
    """That so many boxes, twelve at most, cannot be shared."""
    check_order(order)
    if not is_integer_within(boxes, 0, MOST_BOXES):
        raise InvalidNumber(boxes)
    if can_share(order, boxes):
        return None
    return (("not", str(order), boxes), table(order, boxes))


def _place(name, rows):
    at = place_of(name, rows)
    if at is None:
        raise UnknownName(name)
    return at


def _prices_against_all(order):
    """A price list with no price below 0 and a total below 0, None if there is none."""
    refused = [0 if row else -1 for row in points_of_things(order)]
    if any(refused):
        # No price that counts is made of the integer of a kind that all refuse.
        return _price_list(order, (0, 0), refused)
    for direction, reached, room in sides(order):
        if room < 0:
            return _price_list(order, direction, reached)
    return None


def _prices_of_unused(order):
    """A price list with the total 0 and the price 0 for just what is given in some sharing; there is a sharing."""
    way = (0, 0)
    far = [0 for kind in order.kinds]
    for direction, reached, room in sides(order):
        if room == 0:
            way = (way[0] + direction[0], way[1] + direction[1])
            far = [one + other for one, other in zip(far, reached)]
    return _price_list(order, way, far)


def _price_list(order, direction, reached):
    """The price list in which a price tells by how much less than is told for the kind a thing leads that way."""
    measures = len(order.measures)
    flat = flat_of((-direction[0], -direction[1]), measures, len(order.people))
    rows = [flat[at:at + measures] for at in range(0, len(flat), measures)]
    return (tuple(reached), tuple(rows))
