"""Changes of an order behind which a wished number of boxes can be shared."""

from evenboxes.errors import InvalidChanges, InvalidNumber
from evenboxes.filling import can_share
from evenboxes.limits import MOST_BOXES, MOST_COUNT, MOST_SHARE, MOST_TRIED
from evenboxes.orders import Order, are_worths, check_order, place_of
from evenboxes.valid import is_integer_within, is_tuple_of


def least_changes(order, boxes, changes):
    """All least sets of changes behind which so many boxes can be shared, each a tuple of places in `changes`."""
    check_order(order)
    if not is_integer_within(boxes, 0, MOST_BOXES):
        raise InvalidNumber(boxes)
    _check_changes(order, changes)
    found = []
    for places in _all_sets(len(changes)):
        # Sets come behind those with fewer places, so each part of this one that is a least set has been found.
        # If two changes tell the same number or worths, the last one stands: without the other, this was tried before.
        if not any([_is_part(least, places) for least in found]):
            if can_share(_changed(order, [changes[at] for at in places]), boxes):
                found.append(places)
    return tuple(found)


def _check_changes(order, changes):
    if not isinstance(changes, tuple):
        raise InvalidChanges(None)
    for at, change in enumerate(changes):
        if at == MOST_TRIED or not _is_change(order, change):
            raise InvalidChanges(at)


def _is_change(order, value):
    if not is_tuple_of(value, 3) or not isinstance(value[0], str):
        return False
    word, name, wished = value
    if word == "count":
        return place_of(name, order.kinds) is not None and is_integer_within(wished, 1, MOST_COUNT)
    if word == "worths":
        return place_of(name, order.kinds) is not None and are_worths(wished, len(order.measures))
    if word == "share":
        return place_of(name, order.people) is not None and is_integer_within(wished, 1, MOST_SHARE)
    if word == "takes":
        return place_of(name, order.people) is not None and place_of(wished, order.kinds) is not None
    return False


def _all_sets(many):
    """All ascending tuples of places up to so many, ordered by how many these are, then ascending."""
    found = [()]
    for at in range(many):
        found = found + [(*places, at) for places in found]
    return sorted(found, key=lambda places: (len(places), places))


def _is_part(part, places):
    return all([at in places for at in part])


def _changed(order, chosen):
    kinds = order.kinds
    people = order.people
    for word, name, wished in chosen:
        if word in ("count", "worths"):
            kinds = tuple([_changed_kind(row, word, wished) if row[0] == name else row for row in kinds])
        else:
            people = tuple([_changed_person(row, word, wished) if row[0] == name else row for row in people])
    return Order(order.measures, kinds, people)


def _changed_kind(row, word, wished):
    name, count, worths = row
    if word == "count":
        return (name, wished, worths)
    return (name, count, wished)


def _changed_person(row, word, wished):
    name, share, refused = row
    if word == "share":
        return (name, wished, refused)
    return (name, share, tuple([kind for kind in refused if kind != wished]))
