"""Whether claims for the checker are true, and whether values are certificates for them, by the document's words."""

from math import gcd, lcm

from tests.judge import divisor_of_possible, is_shared, reaches, spread, takes, used_if_cut, whole_due


def is_true(order, word, *told):
    """Whether the claim about this order is true, found without any certificate."""
    if word == "possible":
        return told[0] == 0 or reaches(order, told[0])
    if word == "not":
        return told[0] != 0 and not reaches(order, told[0])
    used = used_if_cut(order)
    if word == "nothing":
        return used == ()
    if word == "unused":
        person = [row[0] for row in order.people].index(told[0])
        kind = [row[0] for row in order.kinds].index(told[1])
        return (person, kind) not in used
    return used == () or divisor_of_possible(order) % told[0] == 0


def is_certificate(order, certificate, word, *told):
    """Whether this is a certificate for the claim, which is a claim for the checker."""
    if word == "possible":
        return _is_sharing(order, certificate, told[0])
    if word == "not":
        return _is_the_table(order, certificate, told[0])
    if word == "multiples":
        return _shows_multiples(order, certificate, told[0])
    if word == "unused":
        person = [row[0] for row in order.people].index(told[0])
        kind = [row[0] for row in order.kinds].index(told[1])
        if not takes(order, person, kind):
            return True
        if not _is_fair(order, certificate):
            return False
        whole = total(order, certificate)
        return whole < 0 or whole == 0 and price(order, certificate, person, kind) > 0
    return _is_fair(order, certificate) and total(order, certificate) < 0


def _integer(value):
    return type(value) is int


def _tuple_of(value, many, test):
    return type(value) is tuple and (many is None or len(value) == many) and all(test(part) for part in value)


def is_price_list(order, value):
    return (
        _tuple_of(value, 2, lambda part: type(part) is tuple)
        and _tuple_of(value[0], len(order.kinds), _integer)
        and _tuple_of(value[1], len(order.people), lambda row: _tuple_of(row, len(order.measures), _integer))
    )


def price(order, prices, person, kind):
    found = prices[0][kind]
    for m in range(len(order.measures)):
        found += prices[1][person][m] * order.kinds[kind][2][m]
    return found


def shares_of(order):
    return sum(share for _, share, _ in order.people)


def total(order, prices):
    found = 0
    for k, (_, count, _) in enumerate(order.kinds):
        found += shares_of(order) * prices[0][k] * count
    for p, (_, share, _) in enumerate(order.people):
        for m in range(len(order.measures)):
            found += prices[1][p][m] * share * sum(count * worths[m] for _, count, worths in order.kinds)
    return found


def pairs_taken(order):
    return [
        (p, k) for p in range(len(order.people)) for k in range(len(order.kinds)) if takes(order, p, k)
    ]


def _is_fair(order, value):
    return is_price_list(order, value) and min([price(order, value, p, k) for p, k in pairs_taken(order)] + [0]) == 0


def _is_sharing(order, value, boxes):
    return _tuple_of(
        value, len(order.people),
        lambda row: _tuple_of(row, len(order.kinds), lambda part: _integer(part) and part >= 0),
    ) and is_shared(order, boxes, value)


def _is_the_table(order, value, boxes):
    if not _tuple_of(value, None, lambda rows: _tuple_of(rows, None, lambda row: _tuple_of(row, None, _integer))):
        return False
    rows = spread(order, boxes)
    if rows is None:
        return value == ()
    return (
        sum(map(len, rows)) <= 2000
        and value == tuple(tuple(sorted(part)) for part in rows)
        and tuple(whole_due(order, boxes)) not in rows[-1]
    )


def _shows_multiples(order, value, number):
    if not _tuple_of(value, 2, lambda part: type(part) is tuple):
        return False
    first, lists = value
    if not _is_fair(order, first) or total(order, first) != 0:
        return False
    shown = 1
    for pair in lists:
        if not _tuple_of(pair, 2, lambda part: True):
            return False
        prices, divisor = pair
        if not is_price_list(order, prices) or not _integer(divisor) or divisor < 1:
            return False
        for p, k in pairs_taken(order):
            if price(order, first, p, k) == 0 and price(order, prices, p, k) % divisor:
                return False
        size = shares_of(order) * divisor
        shown = lcm(shown, size // gcd(total(order, prices), size))
    return shown % number == 0
