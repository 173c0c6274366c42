"""Price lists of an order, and what their prices and totals are."""

from evenboxes.orders import all_shares
from evenboxes.valid import are_integers, is_tuple_of


def is_price_list(order, value):
    """Whether this is a pair of an integer for each kind, and for each person an integer for each measure."""
    if not is_tuple_of(value, 2):
        return False
    of_kinds, of_people = value
    if not _are_so_many(of_kinds, len(order.kinds)) or not is_tuple_of(of_people, len(order.people)):
        return False
    return all([_are_so_many(parts, len(order.measures)) for parts in of_people])


def price(order, prices, person, kind):
    """The price of the person and the kind with these indexes."""
    of_kinds, of_people = prices
    worths = order.kinds[kind][2]
    return of_kinds[kind] + sum([part * worth for part, worth in zip(of_people[person], worths)])


def total(order, prices):
    """The total of a price list."""
    of_kinds, of_people = prices
    shares = all_shares(order)
    counts = [count for name, count, worths in order.kinds]
    things = sum([part * count for part, count in zip(of_kinds, counts)])
    # What is due of so many boxes is just the worth of a box times the share.
    due = [top for row in order.due(shares) for top, bottom in row]
    parts = [part for row in of_people for part in row]
    return shares * things + sum([part * top for part, top in zip(parts, due)])


def _are_so_many(value, many):
    return is_tuple_of(value, many) and are_integers(value)
