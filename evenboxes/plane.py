"""Who can get what in some sharing, and of what all possible numbers are multiples.

What people have is told as a point of a plane. The last one has the rest of all, so two numbers are enough: with two
people the worths that the first one has, in one or two measures; with three the worths that two of them have.
"""

from math import gcd, lcm

from evenboxes.orders import all_shares

# If all points that people can have lie on a line, its ends show in two of these directions.
_AXES = ((1, 0), (-1, 0), (0, 1), (0, -1))


def whole_due(order, boxes):
    """What is due, flat, person by person and measure by measure; None if it is not whole."""
    parts = [part for row in order.due(boxes) for part in row]
    if any([bottom != 1 for top, bottom in parts]):
        return None
    return tuple([top for top, bottom in parts])


def point_of(flat, measures):
    """The point for what people have, told flat, with so many measures."""
    numbers = (0,) + tuple(flat[:-measures])
    return numbers[-2:]


def flat_of(point, measures, people):
    """The numbers of a point in the places, flat, that it comes of, and 0 for the last of the people."""
    places = measures * (people - 1)
    return point[-places:] + tuple([0 for place in range(measures)])


def takers(order):
    """For each kind the pairs (person, point of a thing) of all who get one in some sharing.

    () if no number but 0 is possible.
    """
    # What is due must not lie beyond a side. If it lies on one, each kind goes to those alone whose points lead
    # farthest that way. All who are left can get something at once, and in enough boxes nothing need be cut for that.
    kept = points_of_things(order)
    if () in kept:
        return ()
    for direction, reached, room in sides(order):
        if room < 0:
            return ()
        if room == 0:
            kept = [_reaching(row, direction, far) for row, far in zip(kept, reached)]
    return tuple(kept)


def points_of_things(order):
    """For each kind the pairs (person, point of a thing) of all who do not refuse it."""
    return [_points_of_kind(order, kind) for kind in order.kinds]


def sides(order):
    """The sides of all that people can have if things may be cut; no kind is refused by all.

    They are triples: the direction straight out; for each kind how far a thing can lead that way; and how much
    farther than to what is due all things of a box can lead, times the sum of all shares.
    """
    # If things could be cut, the points that people can have would fill a polygon. Its sides run like those between
    # two people's points for one kind, so all of them are met in these directions.
    rows = points_of_things(order)
    found = []
    for direction in _directions(rows):
        reached = tuple([max([_along(direction, point) for person, point in row]) for row in rows])
        found.append((direction, reached, _room(order, reached, direction)))
    return found


def steps_apart(order, chances):
    """How the points of takers of the same kind lie apart: on lines that are evenly spaced.

    They are triples: the direction across the lines; for each kind how far a thing leads that way, if one of the
    takers gets it; and the step from line to line, which is the same for all kinds.
    """
    (across, up), upright = _two_steps(chances)
    if across == 0:
        lines = [((0, 1), upright)]
    else:
        lines = [((1, 0), abs(across)), ((-up, across), abs(across) * upright)]
    starts = [row[0][1] for row in chances]
    return [(way, tuple([_along(way, start) for start in starts]), step) for way, step in lines if step != 0]


def common_divisor(order, chances):
    """The greatest common divisor of all possible numbers; the chances are the takers, and there are some."""
    # A number is a sum and difference of possible ones if so many boxes could be shared by giving and taking back,
    # that is, if what is due of so many lies just on those lines to which the steps lead.
    divisor = 1
    for direction, reached, step in steps_apart(order, chances):
        whole = all_shares(order) * step
        divisor = lcm(divisor, whole // gcd(_room(order, reached, direction), whole))
    return divisor


def _points_of_kind(order, kind):
    name, count, worths = kind
    found = []
    for at, (_, _, refused) in enumerate(order.people):
        if name not in refused:
            flat = [worth if at == person else 0 for person in range(len(order.people)) for worth in worths]
            found.append((at, point_of(flat, len(worths))))
    return tuple(found)


def _directions(rows):
    """All ways straight away from the lines between the points of one kind, and the axes."""
    found = list(_AXES)
    for row in rows:
        for _, one in row:
            for _, other in row:
                if one != other:
                    found.append((one[1] - other[1], other[0] - one[0]))
    return found


def _along(direction, point):
    """How far the point lies in this direction."""
    return direction[0] * point[0] + direction[1] * point[1]


def _room(order, reached, direction):
    """How much farther than to what is due all things of a box lead, times the sum of all shares."""
    shares = all_shares(order)
    due = point_of(whole_due(order, shares), len(order.measures))
    farthest = sum([kind[1] * far for kind, far in zip(order.kinds, reached)])
    return shares * farthest - _along(direction, due)


def _reaching(row, direction, far):
    return tuple([(person, point) for person, point in row if _along(direction, point) == far])


def _two_steps(chances):
    """A step and a length upright that together make up all steps between points of takers of the same kind."""
    across, up, upright = 0, 0, 0
    for row in chances:
        start = row[0][1]
        for _, point in row:
            x, y = point[0] - start[0], point[1] - start[1]
            while x != 0:
                many = across // x
                across, up, x, y = x, y, across - many * x, up - many * y
            upright = gcd(upright, y)
    return (across, up), upright
