"""Orders and numbers that are drawn, the same ones in each run."""

from evenboxes.orders import Order

NAMES = ("plum", "pear", "fig", "nut")
PEOPLE = ("ann", "bob", "cid")
MEASURES = ("weight", "price")


class Draws:
    """Numbers drawn by a rule of its own, so that each Python draws the same ones."""

    def __init__(self, seed):
        self.state = seed * 2654435761 + 12345

    def below(self, end):
        self.state = (self.state * 6364136223846793005 + 1442695040888963407) % 2 ** 64
        return (self.state >> 33) % end

    def among(self, low, high):
        return low + self.below(high - low + 1)

    def one_of(self, values):
        return values[self.below(len(values))]


def drawn_order(draws, kinds, people, measures, refusing=6, counts=3, worths=6, shares=3):
    """An order of this size; one in so many pairs of a person and a kind is refused."""
    names = NAMES[:kinds]
    return Order(
        MEASURES[:measures],
        tuple((name, draws.among(1, counts), tuple(draws.among(0, worths) for _ in range(measures))) for name in names),
        tuple(
            (person, draws.among(1, shares), tuple(name for name in names if draws.below(refusing) == 0))
            for person in PEOPLE[:people]
        ),
    )


def small_orders(many, seed):
    """So many orders of up to three kinds with few things, of all sizes."""
    draws = Draws(seed)
    found = []
    for at in range(many):
        people, measures = ((2, 1), (2, 2), (3, 1))[at % 3]
        kinds = draws.among(1, 2 if people == 3 else 3)
        found.append(drawn_order(draws, kinds, people, measures, refusing=4, counts=2))
    return found


def large_orders(many, seed):
    """So many orders of four kinds, with two measures or three people, all numbers up to the greatest ones."""
    draws = Draws(seed)
    return [
        drawn_order(draws, 4, *((2, 2) if at % 2 else (3, 1)), refusing=(5, 20)[at % 4 // 2])
        for at in range(many)
    ]


def drawn_generators(draws, most_many, most):
    return tuple(draws.among(1, most) for _ in range(draws.below(most_many + 1)))
