"""Who can get what in some sharing, and of what all possible numbers are multiples.

What people have is told as a point of a plane. The last one has the rest of all, so two numbers are enough: with two
people the worths that the first one has, in one or two measures; with three the worths that two of them have.
"""

from math import gcd

# If all points that people can have lie on a line, its ends show in two of these directions.
_AXES = ((1, 0), (-1, 0), (0, 1), (0, -1))


def whole_due(order, boxes):
    """What is due, flat, person by person and measure by measure; None if it is not whole."""
    parts = [part for row in order.due(boxes) for part in row]
    if any([bottom != 1 for top, bottom in parts]):
        return None
    return tuple([top for top, bottom in parts])


def point_of(flat, measures):
    """The point for what people have, told flat, with so many measures."""
    numbers = (0,) + tuple(flat[:-measures])
    return numbers[-2:]


def takers(order):
    """For each kind the pairs (person, point of a thing) of all who get one in some sharing.

    () if no number but 0 is possible.
    """
    # If things could be cut, the points that people can have would fill a polygon. Its sides run like those between
    # two people's points for one kind, so all of them are met in these directions. What is due must not lie beyond
    # a side. If it lies on one, each kind goes to those alone whose points lead farthest that way. All who are left
    # can get something at once, and in enough boxes nothing need be cut for it.
    rows = [_thing_points(order, kind) for kind in order.kinds]
    if () in rows:
        return ()
    kept = rows
    for direction in _directions(rows):
        reached = [max([_along(direction, point) for person, point in row]) for row in rows]
        room = _room(order, reached, direction)
        if room < 0:
            return ()
        if room == 0:
            kept = [_reaching(row, direction, far) for row, far in zip(kept, reached)]
    return tuple(kept)


def common_divisor(order, chances):
    """The greatest common divisor of all possible numbers; the chances are the takers, and there are some."""
    # A number is a sum and difference of possible ones if so many boxes could be shared by giving and taking back.
    shares = _all_shares(order)
    rest = _due_of_one(order)
    steps = []
    for kind, row in zip(order.kinds, chances):
        count = kind[1]
        start = row[0][1]
        rest = (rest[0] - shares * count * start[0], rest[1] - shares * count * start[1])
        for _, point in row:
            steps.append((shares * (point[0] - start[0]), shares * (point[1] - start[1])))
    return _least_multiple(rest, steps)


def _thing_points(order, kind):
    """The pairs (person, point of a thing of this kind) of all who do not refuse it."""
    name, count, worths = kind
    found = []
    for at, (_, _, refused) in enumerate(order.people):
        if name not in refused:
            flat = [worth if at == person else 0 for person in range(len(order.people)) for worth in worths]
            found.append((at, point_of(flat, len(worths))))
    return tuple(found)


def _all_shares(order):
    return sum([share for name, share, refused in order.people])


def _due_of_one(order):
    """The point for what is due of one box, times the sum of all shares, so that it is whole."""
    return point_of(whole_due(order, _all_shares(order)), len(order.measures))


def _directions(rows):
    """All ways straight away from the lines between the points of one kind, and the axes."""
    found = list(_AXES)
    for row in rows:
        for _, one in row:
            for _, other in row:
                if one != other:
                    found.append((one[1] - other[1], other[0] - one[0]))
    return found


def _along(direction, point):
    return direction[0] * point[0] + direction[1] * point[1]


def _room(order, reached, direction):
    """How much farther than to what is due all things can lead, times the sum of all shares."""
    farthest = sum([kind[1] * far for kind, far in zip(order.kinds, reached)])
    return _all_shares(order) * farthest - _along(direction, _due_of_one(order))


def _reaching(row, direction, far):
    return tuple([(person, point) for person, point in row if _along(direction, point) == far])


def _least_multiple(point, steps):
    """The least number from 1 on so many times which the point is made of these steps, back and forth; there is one."""
    (across, up), upright = _two_steps(steps)
    if across == 0:
        return _times(point[1], upright)
    first = _times(point[0], across)
    there = first * point[0] // across
    return first * _times(first * point[1] - there * up, upright)


def _two_steps(steps):
    """A step and a length upright that together make up the same points as these steps."""
    across, up, upright = 0, 0, 0
    for x, y in steps:
        while x != 0:
            many = across // x
            across, up, x, y = x, y, across - many * x, up - many * y
        upright = gcd(upright, y)
    return (across, up), upright


def _times(number, step):
    """How many times this number is a multiple of the step, at the least; it is 0 if the step is."""
    if number == 0:
        return 1
    return abs(step) // gcd(number, step)
