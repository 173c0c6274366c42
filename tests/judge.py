"""What is true of orders and sets of numbers, found without the program, by trying all there is."""

from itertools import combinations, product
from math import gcd


# Sets of numbers: the bit n of an integer tells whether n is in the set.

def sums_below(end, generators):
    """The bits of all sums of these numbers that are less than the end."""
    bits = 1
    for number in set(generators):
        for _ in range(0, end, number):
            bits |= bits << number
            bits &= (1 << end) - 1
    return bits


def members(bits):
    return [n for n in range(bits.bit_length()) if bits >> n & 1]


def generators_in(numbers):
    """Those from 1 on of these ascending numbers, a set up to some number, that are no sum of two others from 1 on."""
    known = set(numbers)
    positive = [n for n in numbers if n > 0]
    return tuple(n for n in positive if not any(n - m in known for m in positive if m < n))


def divisor_of(numbers):
    divisor = 0
    for number in numbers:
        divisor = gcd(divisor, number)
    return divisor


# Orders.

def whole_due(order, boxes):
    """What is due, flat, by the words of the document; None if it is not whole."""
    shares = sum(share for _, share, _ in order.people)
    flat = [
        (boxes * sum(count * worths[m] for _, count, worths in order.kinds) * share, shares)
        for _, share, _ in order.people
        for m in range(len(order.measures))
    ]
    if any(top % bottom for top, bottom in flat):
        return None
    return [top // bottom for top, bottom in flat]


def takes(order, person, kind):
    return order.kinds[kind][0] not in order.people[person][2]


def gifts(order, kind, many):
    """All ways to give so many things of a kind to people who take it."""
    choices = [range(many + 1) if takes(order, p, kind) else (0,) for p in range(len(order.people))]
    return [row for row in product(*choices) if sum(row) == many]


def spread(order, boxes):
    """Behind each kind, in how many ways people can have which worths, nobody more than is due; None if not whole."""
    due = whole_due(order, boxes)
    if due is None:
        return None
    rows = {(0,) * len(due): 1}
    found = []
    for kind, (_, count, worths) in enumerate(order.kinds):
        behind = {}
        for row, ways in rows.items():
            for gift in gifts(order, kind, boxes * count):
                given = [many * worth for many in gift for worth in worths]
                sums = tuple(a + b for a, b in zip(row, given))
                if all(a <= b for a, b in zip(sums, due)):
                    behind[sums] = behind.get(sums, 0) + ways
        rows = behind
        found.append(rows)
    return found


def ways_to_share(order, boxes):
    """In how many ways so many boxes can be shared."""
    rows = spread(order, boxes)
    return 0 if rows is None else rows[-1].get(tuple(whole_due(order, boxes)), 0)


def is_shared(order, boxes, gift_rows):
    """Whether these rows of integers from 0 on, one for each person, are a sharing, by the words of the document."""
    shares = sum(share for _, share, _ in order.people)
    for kind, (_, count, _) in enumerate(order.kinds):
        if sum(row[kind] for row in gift_rows) != boxes * count:
            return False
    for person, (_, share, _) in enumerate(order.people):
        if any(gift_rows[person][k] and not takes(order, person, k) for k in range(len(order.kinds))):
            return False
        for m in range(len(order.measures)):
            got = sum(many * kind[2][m] for many, kind in zip(gift_rows[person], order.kinds))
            box = sum(count * worths[m] for _, count, worths in order.kinds)
            if got * shares != boxes * box * share:
                return False
    return True


def reaches(order, boxes, person=None, kind=None):
    """Whether so many boxes can be shared, such that the person gets a thing of the kind, if these are told.

    All that people can have is one integer with a bit for each case; the things are given one by one.
    """
    due = whole_due(order, boxes)
    if due is None or kind is not None and boxes == 0:
        return False
    size = boxes * max(sum(c * worths[m] for _, c, worths in order.kinds) for m in range(len(order.measures))) + 1
    scales = [size ** at for at in range(len(due) - len(order.measures))] + [0] * len(order.measures)
    bits = 1
    for k, (_, count, worths) in enumerate(order.kinds):
        steps = []
        for p in range(len(order.people)):
            ahead = p * len(worths)
            steps.append(sum(worth * scales[ahead + m] for m, worth in enumerate(worths)))
        takers = [step for p, step in enumerate(steps) if takes(order, p, k)]
        for at in range(boxes * count):
            if at == 0 and k == kind:
                takers_now = [steps[person]] if takes(order, person, k) else []
            else:
                takers_now = takers
            behind = 0
            for step in takers_now:
                behind |= bits << step
            bits = behind
    return bool(bits >> sum(part * scale for part, scale in zip(due, scales)) & 1)


def possible_up_to(order, most):
    """The ascending list of the possible numbers up to this one."""
    found = [0]
    for boxes in range(1, most + 1):
        if any(boxes - n in found for n in found if n) or reaches(order, boxes):
            found.append(boxes)
    return found


def told_up_to_twelve(order):
    """The possible numbers up to 12 if all others are sums of these, None if they are not."""
    numbers = possible_up_to(order, 12)
    if used_if_cut(order) == ():
        return numbers
    if len(numbers) == 1:
        return None
    least = numbers[1]
    remainders = {n % least for n in numbers}
    return numbers if remainders == set(range(0, least, divisor_of_possible(order))) else None


def divisor_of_possible(order):
    """The greatest common divisor of all possible numbers: the least one if people may also give things back.

    There is a possible number but 0. All things of a kind go to one person, and are moved to others and back.
    """
    used = used_if_cut(order)
    steps = []
    start = {}
    for person, kind in used:
        if kind in start:
            steps.append([a - b for a, b in zip(_point(order, person, kind), _point(order, start[kind], kind))])
        else:
            start[kind] = person
    boxes = 1
    while not _is_moved(steps, _rest(order, start, boxes)):
        boxes += 1
    return boxes


def _rest(order, start, boxes):
    due = whole_due(order, boxes)
    if due is None:
        return None
    rest = _ahead_of_last(order, due)
    for kind, person in start.items():
        rest = [a - boxes * order.kinds[kind][1] * b for a, b in zip(rest, _point(order, person, kind))]
    return rest


def _is_moved(steps, rest):
    """Whether the rest is a sum of these steps, each taken any number of times, also backwards."""
    if rest is None:
        return False
    # So many times each unit is such a sum, if there are steps in two ways (or just one way at all).
    size = max([abs(_area(one, other)) for one in steps for other in steps], default=0)
    if size == 0:
        # All steps go one way. What is no whole number of the least step is none of them.
        long = [step for step in steps if any(step)]
        if not any(rest) or not long:
            return not any(rest)
        at = next(at for at, part in enumerate(long[0]) if part)
        least = divisor_of([abs(step[at]) for step in long])
        return _area(long[0], rest) == 0 and rest[at] % least == 0
    goal = tuple(part % size for part in rest)
    reached = {(0,) * len(rest)}
    new = list(reached)
    while new and goal not in reached:
        ahead = {tuple((a + b) % size for a, b in zip(point, step)) for point in new for step in steps} - reached
        reached |= ahead
        new = list(ahead)
    return goal in reached


def _area(one, other):
    return one[0] * other[-1] - one[-1] * other[0] if len(one) == 2 else 0


def used_in(order, numbers):
    """The pairs that are used in sharings of so many boxes, for these numbers."""
    return tuple(
        (person, kind)
        for person in range(len(order.people))
        for kind in range(len(order.kinds))
        if any(reaches(order, boxes, person, kind) for boxes in numbers)
    )


def used_if_cut(order):
    """The pairs that are used if things may be cut, which then can be done with so many boxes that nothing need be cut.

    It goes through all corners of what can be done: of each kind all goes to one person, but for what is moved to
    others, of one or two kinds in all, or to two others; as many moves as there are equations.
    """
    shares = sum(share for _, share, _ in order.people)
    due = _ahead_of_last(order, whole_due(order, shares))
    takers = [[p for p in range(len(order.people)) if takes(order, p, k)] for k in range(len(order.kinds))]
    used = set()
    for base in product(*takers):
        moves = [(p, k) for k, row in enumerate(takers) for p in row if p != base[k]]
        rest = list(due)
        for k, p in enumerate(base):
            rest = [a - shares * order.kinds[k][1] * b for a, b in zip(rest, _point(order, p, k))]
        for many in range(len(due) + 1):
            for chosen in combinations(moves, many):
                used |= _used_at_corner(order, base, chosen, rest, shares)
    return tuple(sorted(used))


def _ahead_of_last(order, flat):
    return flat[:len(flat) - len(order.measures)]


def _point(order, person, kind):
    flat = [0] * (len(order.people) * len(order.measures))
    for m, worth in enumerate(order.kinds[kind][2]):
        flat[person * len(order.measures) + m] = worth
    return _ahead_of_last(order, flat)


def _used_at_corner(order, base, chosen, rest, shares):
    """The pairs used where just these moves, if they are independent, make up the rest."""
    steps = []
    for p, k in chosen:
        steps.append([a - b for a, b in zip(_point(order, p, k), _point(order, base[k], k))])
    solved = _solved(steps, rest)
    if solved is None:
        return set()
    amounts, bottom = solved
    left = [shares * bottom * kind[1] for kind in order.kinds]
    for (_, k), amount in zip(chosen, amounts):
        left[k] -= amount
    if min([*amounts, *left]) < 0:
        return set()
    stay = {(base[k], k) for k, amount in enumerate(left) if amount > 0}
    return stay | {pair for pair, amount in zip(chosen, amounts) if amount > 0}


def _solved(steps, rest):
    """Integers and a bottom from 1 on, by which they are divided, so many times the steps give the rest; or None."""
    if not steps:
        return None if any(rest) else ([], 1)
    if len(steps) == 1:
        at = next((at for at, part in enumerate(steps[0]) if part), None)
        if at is None:
            return None
        top, bottom = rest[at], steps[0][at]
        if any(top * part != bottom * other for part, other in zip(steps[0], rest)):
            return None
        return ([top], bottom) if bottom > 0 else ([-top], -bottom)
    (a, b), (c, d) = steps
    bottom = a * d - b * c
    if bottom == 0:
        return None
    tops = [rest[0] * d - rest[1] * c, a * rest[1] - b * rest[0]]
    return (tops, bottom) if bottom > 0 else ([-top for top in tops], -bottom)
