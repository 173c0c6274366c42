"""A small checker: what it accepts is true, whoever wrote the certificate."""

from math import gcd, lcm

from evenboxes.errors import InvalidText, TooMany
from evenboxes.limits import MOST_BOXES
from evenboxes.orders import all_shares, place_of, read_order, takes
from evenboxes.prices import is_price_list, price, total
from evenboxes.sharing import is_sharing, table
from evenboxes.valid import are_integers, is_integer_within, is_number, is_tuple_of


def accepts(claim, certificate):
    """Whether this is a claim for the checker, and this a certificate for it."""
    if not isinstance(claim, tuple) or len(claim) < 2 or not isinstance(claim[0], str):
        return False
    word, text = claim[:2]
    order = _order_with(text)
    if order is None:
        return False
    told = claim[2:]
    if word == "unused":
        return len(told) == 2 and _shows_unused(order, told[0], told[1], certificate)
    if word == "nothing":
        return len(told) == 0 and _shows_nothing(order, certificate)
    if len(told) != 1:
        return False
    if word == "possible":
        return is_number(told[0]) and is_sharing(order, told[0], certificate)
    if word == "multiples":
        return _shows_multiples(order, told[0], certificate)
    return word == "not" and _shows_not(order, told[0], certificate)


def _order_with(text):
    try:
        return read_order(text)
    except InvalidText:
        return None


def _shows_nothing(order, certificate):
    return _is_fair(order, certificate) and total(order, certificate) < 0


def _shows_unused(order, person, kind, certificate):
    person_at = place_of(person, order.people)
    kind_at = place_of(kind, order.kinds)
    if person_at is None or kind_at is None:
        return False
    if not takes(order, person_at, kind_at):
        return True
    if not _is_fair(order, certificate):
        return False
    whole = total(order, certificate)
    return whole < 0 or whole == 0 and price(order, certificate, person_at, kind_at) > 0


def _shows_multiples(order, number, certificate):
    if not _is_from_one(number) or not is_tuple_of(certificate, 2):
        return False
    first, lists = certificate
    if not _is_fair(order, first) or total(order, first) != 0 or not isinstance(lists, tuple):
        return False
    given = [pair for pair in _all_taken(order) if price(order, first, pair[0], pair[1]) == 0]
    # The number divides a least common multiple if just what it shares with each of the numbers makes it up.
    shown = 1
    for remainders in lists:
        if not _are_remainders(order, given, remainders):
            return False
        prices, divisor = remainders
        whole = all_shares(order) * divisor
        shown = lcm(shown, gcd(number, whole // gcd(total(order, prices), whole)))
    return shown == number


def _shows_not(order, boxes, certificate):
    if not is_integer_within(boxes, 0, MOST_BOXES) or not _is_table_of_integers(certificate):
        return False
    try:
        wanted = table(order, boxes)
    except TooMany:
        return False
    due = tuple([top for row in order.due(boxes) for top, bottom in row])
    return certificate == wanted and (wanted == () or due not in wanted[-1])


def _all_taken(order):
    """All pairs of a person and a kind that is not refused."""
    people = range(len(order.people))
    kinds = range(len(order.kinds))
    return [(person, kind) for person in people for kind in kinds if takes(order, person, kind)]


def _is_fair(order, value):
    """Whether this is a price list with no price below 0 for what is not refused."""
    if not is_price_list(order, value):
        return False
    return all([price(order, value, person, kind) >= 0 for person, kind in _all_taken(order)])


def _are_remainders(order, given, value):
    """Whether this is a pair of a price list and an integer from 1 on that divides the prices of what is given."""
    if not is_tuple_of(value, 2):
        return False
    prices, divisor = value
    if not is_price_list(order, prices) or not _is_from_one(divisor):
        return False
    return all([price(order, prices, person, kind) % divisor == 0 for person, kind in given])


def _is_table_of_integers(value):
    """Whether this is a tuple of tuples of tuples of integers: only integers are compared with those of a table."""
    if not isinstance(value, tuple) or not all([isinstance(rows, tuple) for rows in value]):
        return False
    return all([are_integers(row) for rows in value for row in rows])


def _is_from_one(value):
    return is_number(value) and value > 0
