"""Orders: what is in a box, and who shares it."""

from math import gcd

from evenboxes.errors import InvalidKinds, InvalidMeasures, InvalidPeople, InvalidText, NotAnOrder
from evenboxes.limits import MOST_COUNT, MOST_KINDS, MOST_PEOPLE, MOST_SHARE, MOST_WORTH
from evenboxes.valid import check_number, is_integer_within, is_name, is_tuple_of

_MOST_MEASURES = 2
_FEWEST_PEOPLE = 2


class Order:
    """Measures, the kinds of things in a box, and the people who share."""

    def __init__(self, measures, kinds, people):
        _check_measures(measures)
        _check_kinds(kinds, len(measures))
        _check_people(people, _names(kinds), _most_people(len(measures)))
        self._measures = measures
        self._kinds = kinds
        self._people = people
        self._text = _text_of(measures, kinds, people)

    @classmethod
    def read(cls, text):
        """The order that has this text."""
        return read_order(text)

    @property
    def measures(self):
        """The tuple of the measures' names."""
        return self._measures

    @property
    def kinds(self):
        """The tuple of triples (name, count, worths)."""
        return self._kinds

    @property
    def people(self):
        """The tuple of triples (name, share, names of refused kinds)."""
        return self._people

    def due(self, boxes):
        """For each person and each measure the pair (top, bottom) that tells what is due."""
        check_number(boxes)
        totals = [boxes * _box_worth(self._kinds, place) for place in range(len(self._measures))]
        shares = [share for name, share, refused in self._people]
        all_shares = sum(shares)
        return tuple([_parts(totals, share, all_shares) for share in shares])

    def __eq__(self, other):
        return isinstance(other, Order) and self._text == other._text

    def __str__(self):
        return str(self._text)

    def __repr__(self):
        return f"Order of {len(self._kinds)} kinds, {len(self._people)} people"


def read_order(text):
    """The order that has this text; raises InvalidText if there is none."""
    if not isinstance(text, str):
        raise InvalidText(text)
    measures, kinds, people = _told(text)
    try:
        order = Order(measures, kinds, people)
    except (InvalidMeasures, InvalidKinds, InvalidPeople):
        raise InvalidText(text) from None
    if str(order) != text:
        raise InvalidText(text)
    return order


def check_order(value):
    """Raises NotAnOrder if this is no order."""
    if not isinstance(value, Order):
        raise NotAnOrder(value)


def all_shares(order):
    """The sum of the shares of all people."""
    return sum([share for name, share, refused in order.people])


def takes(order, person, kind):
    """Whether the person with this index does not refuse the kind with this index."""
    return order.kinds[kind][0] not in order.people[person][2]


def place_of(name, rows):
    """The index of the kind or the person with this name, None if this is no name of one."""
    names = _names(rows)
    # Only names are compared with names: any other value might claim to equal one.
    if not is_name(name) or name not in names:
        return None
    return names.index(name)


def are_worths(value, many):
    """Whether these are worths of a kind, so many."""
    return is_tuple_of(value, many) and all([is_integer_within(worth, 0, MOST_WORTH) for worth in value])


def _check_measures(measures):
    if not isinstance(measures, tuple) or len(measures) == 0:
        raise InvalidMeasures(None)
    for at, name in enumerate(measures):
        if at == _MOST_MEASURES or not is_name(name) or name in measures[:at]:
            raise InvalidMeasures(at)


def _check_kinds(kinds, worths_wanted):
    if not isinstance(kinds, tuple) or len(kinds) == 0:
        raise InvalidKinds(None)
    for at, kind in enumerate(kinds):
        if at == MOST_KINDS or not _is_kind(kind, worths_wanted) or kind[0] in _names(kinds[:at]):
            raise InvalidKinds(at)


def _check_people(people, kind_names, most):
    if not isinstance(people, tuple) or len(people) < _FEWEST_PEOPLE:
        raise InvalidPeople(None)
    for at, person in enumerate(people):
        if at == most or not _is_person(person, kind_names) or person[0] in _names(people[:at]):
            raise InvalidPeople(at)


def _is_kind(value, worths_wanted):
    if not is_tuple_of(value, 3):
        return False
    name, count, worths = value
    return is_name(name) and is_integer_within(count, 1, MOST_COUNT) and are_worths(worths, worths_wanted)


def _is_person(value, kind_names):
    if not is_tuple_of(value, 3):
        return False
    name, share, refused = value
    return is_name(name) and is_integer_within(share, 1, MOST_SHARE) and _are_refused(refused, kind_names)


def _are_refused(value, kind_names):
    # Only names are compared with names: any other value might claim to equal one.
    if not isinstance(value, tuple) or not all([is_name(word) for word in value]):
        return False
    return value == tuple([name for name in kind_names if name in value])


def _most_people(measures_told):
    if measures_told == 1:
        return MOST_PEOPLE
    return MOST_PEOPLE - 1


def _names(rows):
    """The names with which such triples begin."""
    return [row[0] for row in rows]


def _text_of(measures, kinds, people):
    rows = ["measure " + ", ".join(measures)]
    for name, count, worths in kinds:
        told = ", ".join([str(worth) for worth in worths])
        rows.append(f"kind {name} {count}: {told}")
    for name, share, refused in people:
        without = ", ".join(refused)
        rows.append(f"person {name} {share} without {without}" if refused else f"person {name} {share}")
    return "\n".join(rows)


def _told(text):
    """The measures, kinds and people that the rows of a text tell.

    Signs are left out and strange rows passed over: who calls compares the text of what comes of it.
    """
    measures = []
    kinds = []
    people = []
    for row in text.split("\n"):
        first, *words = row.replace(",", "").replace(":", "").split(" ")
        if first == "measure":
            measures.extend(words)
        elif first == "kind" and len(words) > 1:
            kinds.append((words[0], _digit(words[1]), tuple([_digit(word) for word in words[2:]])))
        elif first == "person" and len(words) > 1:
            people.append((words[0], _digit(words[1]), tuple(words[3:])))
    return (tuple(measures), tuple(kinds), tuple(people))


def _digit(word):
    """The integer that a single digit tells; None, which no order takes, for any other word."""
    if len(word) == 1 and word in "0123456789":
        return int(word)
    return None


def _box_worth(kinds, place):
    return sum([count * worths[place] for name, count, worths in kinds])


def _parts(totals, share, all_shares):
    return tuple([_lowest(total * share, all_shares) for total in totals])


def _lowest(top, bottom):
    common = gcd(top, bottom)
    return (top // common, bottom // common)
