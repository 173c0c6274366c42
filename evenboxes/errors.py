"""The errors of Evenboxes, under one base class for each kind of failure."""

# Each class has an __init__ of its own: a class between it and its base would be a second base class.


class WrongValue(ValueError):
    """A value is not one that may be passed here."""


class InvalidNumber(WrongValue):
    """Not a number that may stand here."""

    def __init__(self, given):
        self.given = given


class InvalidText(WrongValue):
    """Not the text of an order."""

    def __init__(self, given):
        self.given = given


class InvalidName(WrongValue):
    """Not a name."""

    def __init__(self, given):
        self.given = given


class InvalidIndex(WrongValue):
    """Not the index of a promise."""

    def __init__(self, given):
        self.given = given


class InvalidPromise(WrongValue):
    """Not a promise."""

    def __init__(self, given):
        self.given = given


class NotAnOrder(WrongValue):
    """Something else in the place of an order."""

    def __init__(self, given):
        self.given = given


class NotNumbers(WrongValue):
    """Something else in the place of a set of numbers."""

    def __init__(self, given):
        self.given = given


class InvalidMeasures(WrongValue):
    """Not the measures of an order."""

    def __init__(self, index):
        self.index = index


class InvalidKinds(WrongValue):
    """Not the kinds of an order."""

    def __init__(self, index):
        self.index = index


class InvalidPeople(WrongValue):
    """Not the people of an order."""

    def __init__(self, index):
        self.index = index


class InvalidGenerators(WrongValue):
    """Not generators for a set of numbers."""

    def __init__(self, index):
        self.index = index


class InvalidChanges(WrongValue):
    """Not changes for an order."""

    def __init__(self, index):
        self.index = index


class WrongName(LookupError):
    """A name cannot be used as wished."""


class UnknownName(WrongName):
    """Nothing here has this name."""

    def __init__(self, given):
        self.given = given


class InUse(WrongName):
    """The promise with this index names what should be taken away."""

    def __init__(self, index):
        self.index = index


class NoAnswer(ArithmeticError):
    """What was asked has no answer here."""


class TooMany(NoAnswer):
    """The answer goes beyond this limit."""

    def __init__(self, limit):
        self.limit = limit


class NothingToUndo(NoAnswer):
    """All changes have been taken back."""


class Broken(NoAnswer):
    """The promise with this index would not be true; what is shown tells where."""

    def __init__(self, index, shown):
        self.index = index
        self.shown = shown
