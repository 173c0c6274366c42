"""Valid orders and values of all kinds, for several test files."""

from itertools import combinations

from evenboxes.orders import Order

# Names that stand in rows as words, and those of the least and the greatest length.
KIND_NAMES = ("plum", "kind", "a", "without1")
PERSON_NAMES = ("ann", "without", "z9876543")
MEASURES = (("weight",), ("measure", "m2"), ("x",), ("kind", "person"))

BIG = 10 ** 50


class Liar:
    """An object that claims to equal everything."""

    def __eq__(self, other):
        return True

    def __ne__(self, other):
        return False


def fruit():
    """The arguments of the first order in the document."""
    return (
        ("weight", "price"),
        (("plum", 3, (2, 1)), ("pear", 2, (5, 4)), ("fig", 1, (0, 3))),
        (("ann", 1, ()), ("bob", 2, ("plum", "fig"))),
    )


FRUIT_TEXT = (
    "measure weight, price\n"
    "kind plum 3: 2, 1\n"
    "kind pear 2: 5, 4\n"
    "kind fig 1: 0, 3\n"
    "person ann 1\n"
    "person bob 2 without plum, fig"
)


def kinds_of(many, measures, seed):
    """So many kinds whose counts and worths run through all that there are."""
    return tuple(
        (KIND_NAMES[k], 1 + (seed + k) % 3, tuple((seed * 3 + k * 5 + m) % 7 for m in range(measures)))
        for k in range(many)
    )


def refusals(names):
    """All that a person can refuse."""
    return [chosen for many in range(len(names) + 1) for chosen in combinations(names, many)]


def people_of(many, names, seed):
    """So many people whose shares and refusals run through all that there are."""
    lists = refusals(names)
    return tuple(
        (PERSON_NAMES[p], 1 + (seed + 2 * p) % 3, lists[(seed * 5 + p * 3) % len(lists)])
        for p in range(many)
    )


def valid_arguments():
    """Arguments for many orders, of every size that an order can have."""
    found = [fruit()]
    for measures in MEASURES:
        for many in (1, 2, 3, 4):
            for persons in (2, 3) if len(measures) == 1 else (2,):
                for seed in range(16):
                    kinds = kinds_of(many, len(measures), seed)
                    people = people_of(persons, KIND_NAMES[:many], seed)
                    found.append((measures, kinds, people))
    return found


def expected_text(measures, kinds, people):
    """The text of an order, written apart from the program."""
    rows = ["measure %s" % ", ".join(measures)]
    rows += ["kind %s %d: %s" % (name, count, ", ".join("%d" % w for w in worths)) for name, count, worths in kinds]
    rows += [
        "person %s %d%s" % (name, share, " without " + ", ".join(refused) if refused else "")
        for name, share, refused in people
    ]
    return "\n".join(rows)


def values_of_all_kinds():
    """Values of many kinds, none of them valid where a name, a number or a tuple with elements must stand."""
    return [
        None, True, False, -1, -BIG, "", b"", b"plum", [], {}, {1}, ["plum"], {"plum": 1}, (), object(), Liar(),
        len, int, Order, Order(*fruit()), range(3),
    ]


def names_refused():
    """Values that are no names."""
    return values_of_all_kinds() + [
        0, 1, 12, ("plum",), "A", "Plum", "pLum", "1", "1plum", "plum ", " plum", "pl um", "plum\n", "\nplum",
        "abcdefghi", "a23456789", "a_b", "a-b", "a,", "a:", "\n", " ", "a.b", "`a", "a{", "a/", "a@", "a~",
    ]


def not_in_range(low, high):
    """Values that are no integers from the low to the high one."""
    return [v for v in values_of_all_kinds() if v is not None] + [
        None, low - 1, high + 1, high + 100, BIG, str(low), str(high), (low,), [low],
    ]
