"""Sharings, and the numbers of boxes that can be shared."""

from evenboxes.errors import InvalidNumber, TooMany
from evenboxes.filling import fill, ways
from evenboxes.limits import MOST_BOXES, MOST_ROWS
from evenboxes.numbers import Numbers
from evenboxes.orders import check_order
from evenboxes.plane import common_divisor, takers, whole_due
from evenboxes.valid import check_number, is_integer_within, is_number, is_tuple_of


def is_sharing(order, boxes, sharing):
    """Whether this is a sharing of so many boxes."""
    check_order(order)
    check_number(boxes)
    if not is_tuple_of(sharing, len(order.people)):
        return False
    if not all([_are_gifts(order, person, gifts) for person, gifts in zip(order.people, sharing)]):
        return False
    given = [sum([gifts[at] for gifts in sharing]) for at in range(len(order.kinds))]
    if given != [boxes * count for name, count, worths in order.kinds]:
        return False
    return whole_due(order, boxes) == _worths_of(order, sharing)


def table(order, boxes):
    """For each kind the ascending tuple of all worths that people can have behind it.

    () if what is due is not whole.
    """
    check_order(order)
    if not is_integer_within(boxes, 0, MOST_BOXES):
        raise InvalidNumber(boxes)
    due = whole_due(order, boxes)
    if due is None:
        return ()
    rows = (tuple([0 for place in due]),)
    parts = []
    room = MOST_ROWS
    for kind in order.kinds:
        rows = _rows_behind(order, rows, kind, boxes, due, room)
        room -= len(rows)
        parts.append(rows)
    return tuple(parts)


def possible(order):
    """The Numbers of boxes that can be shared."""
    check_order(order)
    return _possible(order, takers(order))


def sharing(order, boxes):
    """Any sharing of so many boxes, None if there is none."""
    check_order(order)
    check_number(boxes)
    chances = takers(order)
    numbers = _possible(order, chances)
    if boxes == 0:
        return tuple([tuple([0 for kind in order.kinds]) for person in order.people])
    if boxes not in numbers:
        return None
    least = numbers.generators[0]
    first = min([few for few in range(boxes % least, MOST_BOXES + 1, least) if few in numbers])
    return _with_more(fill(order, first, chances), (boxes - first) // least, fill(order, least, chances))


def used(order):
    """The ascending tuple of the pairs (person, kind) such that the person gets a thing of the kind in some sharing."""
    check_order(order)
    return tuple(sorted([(person, at) for at, row in enumerate(takers(order)) for person, point in row]))


def _are_gifts(order, person, gifts):
    """Whether this tells how many things of each kind the person gets, none of what is refused."""
    if not is_tuple_of(gifts, len(order.kinds)) or not all([is_number(count) for count in gifts]):
        return False
    refused = person[2]
    return all([count == 0 or kind[0] not in refused for count, kind in zip(gifts, order.kinds)])


def _worths_of(order, gifts_of_all):
    """The worths of what people get, flat."""
    places = range(len(order.measures))
    return tuple([_worth(order.kinds, gifts, place) for gifts in gifts_of_all for place in places])


def _worth(kinds, gifts, place):
    return sum([count * kind[2][place] for count, kind in zip(gifts, kinds)])


def _rows_behind(order, rows, kind, boxes, due, room):
    """The rows of a table behind this kind, those before it being told, if there is room for so many."""
    name, count, worths = kind
    # Things of no worth change no row, whoever gets them: one tells as much as many.
    many = boxes * count if any(worths) else min(boxes, 1)
    seen = set()
    for row in rows:
        rooms = [_most_things(order, at, kind, row, due, many) for at in range(len(order.people))]
        for gifts in ways(many, rooms):
            more = [given * worth for given in gifts for worth in worths]
            seen.add(tuple([one + other for one, other in zip(row, more)]))
        if len(seen) > room:
            raise TooMany(MOST_ROWS)
    return tuple(sorted(seen))


def _most_things(order, at, kind, row, due, many):
    """How many of so many things the person can get who has what the row tells."""
    name, count, worths = kind
    if name in order.people[at][2]:
        return 0
    start = at * len(worths)
    rests = [due[start + place] - row[start + place] for place in range(len(worths))]
    return min([many] + [rest // worth for rest, worth in zip(rests, worths) if worth > 0])


def _possible(order, chances):
    if not chances:
        return Numbers()
    divisor = common_divisor(order, chances)
    few = []
    for boxes in range(divisor, MOST_BOXES + 1, divisor):
        if any([boxes - other in few for other in few]) or fill(order, boxes, chances) is not None:
            few.append(boxes)
    # With each remainder told by its least number, all numbers are told: the others are greater by the least of all.
    if not few or len({number % few[0] for number in few}) < few[0] // divisor:
        raise TooMany(MOST_BOXES)
    return Numbers(tuple(few))


def _with_more(first, times, second):
    """The one sharing, and so many times the other one."""
    return tuple([
        tuple([count + times * more for count, more in zip(gifts, gifts_more)])
        for gifts, gifts_more in zip(first, second)
    ])
