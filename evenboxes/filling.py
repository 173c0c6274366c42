"""The ways to give things, and the search for a sharing of a few boxes."""

from evenboxes.plane import point_of, takers, whole_due

# A grid tells the points that people can reach: the row x has the bit y for the point (x, y).


def ways(many, rooms):
    """All tuples of integers from 0 on that are so many together, none greater than its room."""
    others = rooms[1:]
    if not others:
        return [(many,)] if many <= rooms[0] else []
    least = max(0, many - sum(others))
    most = min(many, rooms[0])
    return [(first, *more) for first in range(least, most + 1) for more in ways(many - first, others)]


def can_share(order, boxes):
    """Whether so many boxes, a few, can be shared."""
    if boxes == 0:
        return True
    chances = takers(order)
    return chances != () and fill(order, boxes, chances) is not None


def fill(order, boxes, chances):
    """A sharing of so many boxes in which only these takers get things, None if there is none."""
    due = whole_due(order, boxes)
    if due is None:
        return None
    end = point_of(due, len(order.measures))
    grids = _grids(order, boxes, chances, end)
    if not _stands(grids[-1], end):
        return None
    columns = []
    for at in reversed(range(len(chances))):
        column, end = _step_back(order, boxes * order.kinds[at][1], chances[at], grids[at], end)
        columns.append(column)
    columns.reverse()
    return tuple([_row_across(columns, person) for person in range(len(order.people))])


def _row_across(columns, at):
    return tuple([column[at] for column in columns])


def _grids(order, boxes, chances, end):
    """The grid ahead of all kinds and the ones behind each kind, up to the end."""
    grid = [0 for place in range(end[0] + 1)]
    grid[0] = 1
    grids = [grid]
    for kind, row in zip(order.kinds, chances):
        grid = _given(grid, boxes * kind[1], [point for person, point in row], end)
        grids.append(grid)
    return grids


def _given(grid, many, points, end):
    """The grid behind so many things, each at one of these points, three at most."""
    given = 0
    while given < many:
        # Whoever has the most of given + more things has at least `more` of them, as 3 * (more - 1) is less than
        # all. So all ways to give these come of the ways before by giving `more` things to one of the people.
        more = min(many - given, given // 2 + 1)
        grid = _joined([_moved(grid, more * x, more * y, end) for x, y in points])
        given += more
    return grid


def _moved(grid, x, y, end):
    """The grid with all points moved so far; what comes to lie beyond the end is left out."""
    bits = (1 << (end[1] + 1)) - 1
    rows = [0 for place in range(min(x, len(grid)))]
    return rows + [(row << y) & bits for row in grid[:max(0, len(grid) - x)]]


def _joined(grids):
    """The grid with the points of all these."""
    whole = grids[0]
    for grid in grids[1:]:
        whole = [one | other for one, other in zip(whole, grid)]
    return whole


def _stands(grid, point):
    x, y = point
    return x >= 0 and y >= 0 and (grid[x] >> y) & 1 == 1


def _step_back(order, many, row, grid, end):
    """How many things of a kind each person gets, and the point of the grid from which this leads to the end."""
    points = [(0, 0) for person in order.people]
    rooms = [0 for person in order.people]
    for at, point in row:
        points[at] = point
        rooms[at] = many
    for column in ways(many, rooms):
        x = end[0] - sum([count * point[0] for count, point in zip(column, points)])
        y = end[1] - sum([count * point[1] for count, point in zip(column, points)])
        if _stands(grid, (x, y)):
            return column, (x, y)
    return None
