"""Orders for several test files, each with what is told of it."""

from evenboxes.orders import Order

FRUIT = Order(("weight",), (("plum", 2, (3,)), ("pear", 1, (4,))), (("ann", 1, ()), ("bob", 1, ())))
FUSSY = Order.read("measure weight\nkind plum 2: 3\nkind pear 1: 4\nperson ann 1\nperson bob 1 without plum")
EGGS = Order(("number",), (("egg", 3, (1,)),), (("ann", 1, ()), ("bob", 1, ())))


def order(*rows):
    return Order.read("\n".join(rows))


# Of the kind a, which is of no worth, the first one takes nothing.
WORTHLESS = order("measure x", "kind a 1: 0", "kind b 1: 1", "person p 1 without a", "person q 1")

# Pairs of an order and the generators of the possible numbers.
ANSWERED = (
    (FRUIT, (2, 3)),
    (FUSSY, ()),
    (EGGS, (2,)),
    (order("measure n", "kind egg 1: 1", "person a 1", "person b 1"), (2,)),
    (order("measure n", "kind egg 2: 1", "person a 1", "person b 1"), (1,)),
    (order("measure n", "kind egg 1: 1", "person a 2", "person b 2", "person c 3"), (7,)),
    (order("measure n", "kind egg 1: 6", "person a 3", "person b 3", "person c 3"), (3,)),
    # Several generators.
    (order("measure x", "kind a 2: 5", "kind b 1: 6", "person p 1", "person q 1"), (2, 5)),
    (order("measure x", "kind a 1: 6", "kind b 1: 1", "person p 3", "person q 1", "person r 3"), (2, 7)),
    (order("measure x, y", "kind a 2: 1, 2", "kind b 2: 3, 5", "kind c 3: 4, 0", "person p 2", "person q 2"), (2, 11)),
    (order("measure x", "kind a 2: 5", "kind b 1: 2", "person p 1", "person q 3"), (3, 4, 5)),
    (order("measure x", "kind a 1: 5", "kind b 1: 4", "kind c 2: 0", "person p 1", "person q 1", "person r 1"),
     (3, 8, 10)),
    (order("measure x", "kind a 1: 4", "kind b 2: 5", "person p 1", "person q 1", "person r 2"), (4, 10)),
    (order("measure x, y", "kind a 1: 6, 6", "kind b 2: 4, 5", "kind c 1: 1, 4", "person p 3", "person q 2"),
     (5, 7, 8, 9, 11)),
    (order("measure x", "kind a 2: 2", "kind b 1: 5", "kind c 1: 6", "person p 2 without b", "person q 2 without a",
           "person r 1"), (6, 7, 8, 9, 10, 11)),
    (order("measure x", "kind a 1: 4", "kind b 2: 3", "person p 1", "person q 3", "person r 2"), (6, 9)),
    (order("measure x", "kind a 2: 3", "kind b 2: 5", "kind c 3: 1", "person p 1", "person q 3 without c"), (8, 12)),
    # The least number is just within the limit.
    (order("measure x", "kind a 1: 6", "kind b 1: 1", "person p 3", "person q 3 without b"), (12,)),
    (order("measure x, y", "kind a 3: 1, 4", "kind b 2: 6, 5", "kind c 2: 3, 1", "person p 2", "person q 1 without b"),
     (11,)),
    # A kind that nobody takes.
    (order("measure x", "kind a 1: 2", "person p 1 without a", "person q 1 without a"), ()),
    (order("measure x", "kind a 1: 0", "person p 1 without a", "person q 1 without a"), ()),
    (order("measure x", "kind a 2: 2", "kind b 1: 0", "person p 1 without b", "person q 1 without b"), ()),
    # Kinds of no worth.
    (order("measure x", "kind a 1: 0", "person p 1", "person q 3"), (1,)),
    (order("measure x", "kind a 1: 0", "person p 1 without a", "person q 3"), (1,)),
    (order("measure x, y", "kind a 3: 0, 0", "kind b 3: 0, 0", "person p 1", "person q 3 without a"), (1,)),
    (WORTHLESS, (2,)),
    (order("measure x", "kind a 1: 0", "kind b 1: 1", "person p 1", "person q 1", "person r 1 without b"), ()),
    # What one is due cannot come of what this one takes.
    (order("measure x", "kind a 1: 2", "person p 1 without a", "person q 3"), ()),
    (order("measure x, y", "kind a 1: 1, 0", "kind b 1: 0, 1", "person p 1 without b", "person q 1"), ()),
)

# Orders that cannot be told by the numbers up to 12, and some of their least possible numbers.
NOT_TOLD = (
    # The least one is more than 12.
    (order("measure x, y", "kind a 3: 5, 2", "kind b 3: 6, 5", "kind c 2: 3, 3", "person p 2 without c", "person q 1"),
     (13, 26, 39)),
    (order("measure x, y", "kind a 2: 2, 3", "kind b 2: 1, 5", "kind c 2: 1, 3", "person p 1 without c", "person q 3"),
     (14, 28)),
    (order("measure x", "kind a 3: 5", "kind b 1: 4", "person p 1", "person q 2 without b"), (15, 30)),
    (order("measure x", "kind a 1: 1", "kind b 1: 6", "person p 1 without a", "person q 3"), (24, 48)),
    (order("measure x", "kind a 3: 5", "kind b 3: 2", "kind c 1: 4", "person p 3 without b", "person q 1"), (16, 20)),
    # A further remainder has its least number beyond 12.
    (order("measure x", "kind a 3: 4", "kind b 1: 6", "kind c 2: 5", "person p 1", "person q 3 without b"), None),
    (order("measure x", "kind a 3: 3", "kind b 1: 6", "kind c 1: 5", "person p 1 without a", "person q 1"), None),
    (order("measure x", "kind a 1: 5", "kind b 2: 3", "kind c 2: 4", "person p 2 without b", "person q 1"), None),
    (order("measure x", "kind a 2: 5", "kind b 1: 5", "kind c 1: 6", "person p 2 without a", "person q 3"), None),
    (order("measure x, y", "kind a 1: 1, 5", "kind b 3: 5, 5", "kind c 2: 3, 6", "person p 2", "person q 2"), None),
    # Up to 12 there is 8, and all numbers up to 59 are multiples of it, but 60 is possible.
    (order("measure x, y", "kind a 2: 5, 1", "kind b 2: 0, 3", "kind c 1: 4, 5", "kind d 2: 3, 5",
           "person p 3 without c", "person q 1"), None),
)

# Triples of an order, a number of boxes, not possible, and how many tuples the table has in all.
LONG_TABLES = (
    (order("measure x, y", "kind a 1: 1, 5", "kind b 3: 5, 5", "kind c 2: 5, 4", "kind d 2: 2, 5", "person p 2",
           "person q 3 without d"), 10, 2000),
    (order("measure x, y", "kind a 2: 6, 1", "kind b 1: 1, 0", "kind c 2: 2, 1", "kind d 3: 4, 3", "person p 2",
           "person q 1 without d"), 12, 2000),
    (order("measure x, y", "kind a 3: 3, 5", "kind b 2: 2, 3", "kind c 3: 3, 6", "kind d 2: 5, 3",
           "person p 3 without d", "person q 3 without d"), 10, 2001),
    (order("measure x, y", "kind a 2: 1, 2", "kind b 1: 5, 5", "kind c 2: 4, 1", "kind d 2: 1, 4",
           "person p 1 without d", "person q 1 without d"), 12, 2001),
)
