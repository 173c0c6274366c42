"""Desks: orders under names, with promises that are true for all numbers."""

from evenboxes.errors import Broken, InUse, InvalidIndex, InvalidName, InvalidPromise, NothingToUndo, TooMany
from evenboxes.errors import UnknownName
from evenboxes.limits import MOST_BOXES
from evenboxes.orders import check_order
from evenboxes.sharing import possible
from evenboxes.valid import is_integer_within, is_name, is_number, is_tuple_of


class Stand:
    """What is on a desk behind a change. It never changes: a change gives a new stand, with this one kept before it."""

    def __init__(self, entries, promised, before):
        self.entries = entries
        self.promised = promised
        self.before = before
        self.depth = 0 if before is None else before.depth + 1


class Entry:
    """An order on a desk, with its possible numbers; None if these are not told."""

    def __init__(self, order):
        self.order = order
        self.numbers = _numbers_told(order)


class Frame:
    """A trial that has begun: the stand at its beginning, and the frame of the trial around it."""

    def __init__(self, stand, outer):
        self.stand = stand
        self.outer = outer


class Trial:
    """For a `with` statement: if its rows end with an exception, the desk is then as it was when they began."""

    def __init__(self, desk):
        self._desk = desk
        self._frame = None

    def __enter__(self):
        self._frame = Frame(self._desk._stand, self._frame)
        return self._desk

    def __exit__(self, kind, value, trace):
        if kind is not None:
            self._desk._stand = self._frame.stand
        self._frame = self._frame.outer


class Desk:
    """Orders under names, and promises about them; after each change all promises are true."""

    def __init__(self):
        self._stand = Stand({}, (), None)

    @property
    def names(self):
        """The ascending tuple of the names of all orders."""
        return tuple(sorted(list(self._stand.entries)))

    @property
    def promises(self):
        """The tuple of the promises as they were passed."""
        return self._stand.promised

    @property
    def changes(self):
        """How many changes can be taken back."""
        return self._stand.depth

    def remove(self, name):
        """Takes the order with this name away."""
        if name not in self:
            raise UnknownName(name)
        for at, promise in enumerate(self._stand.promised):
            if name in _names_in(promise):
                raise InUse(at)
        entries = {known: entry for known, entry in self._stand.entries.items() if known != name}
        self._stand = Stand(entries, self._stand.promised, self._stand)

    def promise(self, promise):
        """Keeps one more promise, behind the others."""
        _check_promise(promise)
        for name in _names_in(promise):
            if name not in self:
                raise UnknownName(name)
        promised = (*self._stand.promised, promise)
        _ask(self._stand.entries, promised, len(promised) - 1)
        self._stand = Stand(self._stand.entries, promised, self._stand)

    def lift(self, index):
        """Takes the promise with this index away."""
        promised = self._stand.promised
        if not is_integer_within(index, 0, len(promised) - 1):
            raise InvalidIndex(index)
        self._stand = Stand(self._stand.entries, promised[:index] + promised[index + 1:], self._stand)

    def undo(self):
        """Takes back the last change that has not been taken back."""
        if self._stand.before is None:
            raise NothingToUndo()
        self._stand = self._stand.before

    def trial(self):
        """For a `with` statement, whose `as` gives the desk."""
        return Trial(self)

    def tried(self, action):
        """Calls the action with the desk, within a trial, and returns what it returns."""
        with self.trial() as desk:
            return action(desk)

    def __setitem__(self, name, order):
        if not is_name(name):
            raise InvalidName(name)
        check_order(order)
        entries = {**self._stand.entries, name: Entry(order)}
        promised = self._stand.promised
        for at, promise in enumerate(promised):
            if name in _names_in(promise):
                _ask(entries, promised, at)
        self._stand = Stand(entries, promised, self._stand)

    def __getitem__(self, name):
        if name not in self:
            raise UnknownName(name)
        return self._stand.entries[name].order

    def __contains__(self, value):
        return is_name(value) and value in self._stand.entries

    def __iter__(self):
        raise TypeError("a desk is not iterated over: ask for its names")

    def __len__(self):
        return len(self._stand.entries)

    def __bool__(self):
        return True

    def __eq__(self, other):
        return self is other


def _numbers_told(order):
    try:
        return possible(order)
    except TooMany:
        return None


def _check_promise(value):
    if not is_tuple_of(value, 3) or not isinstance(value[0], str):
        raise InvalidPromise(value)
    word, _, last = value
    if word != "within" and (word not in ("possible", "from", "never") or not is_number(last)):
        raise InvalidPromise(value)


def _names_in(promise):
    """The names of the orders that a promise tells of, in order."""
    if promise[0] == "within":
        return promise[1:]
    return promise[1:2]


def _ask(entries, promised, index):
    """Raises an error if the promise with this index is not true, or if this is not told."""
    promise = promised[index]
    numbers = []
    for name in _names_in(promise):
        if entries[name].numbers is None:
            raise TooMany(MOST_BOXES)
        numbers.append(entries[name].numbers)
    word, _, last = promise
    shown = None
    if word == "possible":
        is_true = last in numbers[0]
    elif word == "never":
        is_true = last not in numbers[0]
    else:
        shown = _missing_from(numbers[0], last) if word == "from" else numbers[0].within(numbers[1])
        is_true = shown is None
    if not is_true:
        raise Broken(index, shown)


def _missing_from(numbers, start):
    """The least number from the start on that is not in the set, None if there is none."""
    if numbers.divisor == 1:
        return min([gap for gap in numbers.gaps() if gap >= start], default=None)
    # Of two numbers side by side one is no multiple of the divisor, or, if 0 alone is in the set, it is not 0.
    return start + 1 if start in numbers else start
