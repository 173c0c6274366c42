"""Sets of numbers: all sums of some numbers, told for integers of any size."""

from math import gcd

from evenboxes.errors import InvalidGenerators, NotNumbers, TooMany
from evenboxes.limits import MOST_NUMBER
from evenboxes.valid import check_number, is_integer_within, is_number


class Numbers:
    """The set of all sums of these numbers, 0 included."""

    def __init__(self, generators=()):
        _check_generators(generators)
        self._generators = _least_generators(generators)
        self._divisor = _greatest_divisor(self._generators)
        self._leasts = _leasts_by_first(self._generators)

    @property
    def generators(self):
        """The ascending tuple of the numbers that are no sums of others."""
        return self._generators

    @property
    def divisor(self):
        """The greatest common divisor of all numbers, 0 if there is none but 0."""
        return self._divisor

    def gaps(self):
        """The ascending tuple of the multiples of the divisor that are not there."""
        greatest = max([least for least in self._leasts if least is not None], default=0) - len(self._leasts)
        if greatest > MOST_NUMBER:
            raise TooMany(MOST_NUMBER)
        if greatest < 1:
            return ()
        multiples = range(self._divisor, greatest + 1, self._divisor)
        return tuple([number for number in multiples if not _holds(self._leasts, number)])

    def onward(self, start):
        """The least number from this one on, None if there is none."""
        check_number(start)
        if start == 0:
            return 0
        step = len(self._leasts)
        return min([_onward(least, step, start) for least in self._leasts if least is not None], default=None)

    def below(self, end):
        """How many numbers are less than this one."""
        check_number(end)
        if not self._leasts:
            return min(end, 1)
        step = len(self._leasts)
        return sum([_below(least, step, end) for least in self._leasts if least is not None])

    def within(self, other):
        """The least number that is not in the other set, None if there is none."""
        if not isinstance(other, Numbers):
            raise NotNumbers(other)
        # The least number that is missing there is no sum: its parts would be there, and with them the sum.
        missing = [number for number in self._generators if not _holds(other._leasts, number)]
        return min(missing, default=None)

    def __contains__(self, value):
        return is_number(value) and _holds(self._leasts, value)

    def __add__(self, other):
        if not isinstance(other, Numbers):
            raise NotNumbers(other)
        return Numbers(self._generators + other._generators)

    def __and__(self, other):
        if not isinstance(other, Numbers):
            raise NotNumbers(other)
        return Numbers(_common_generators(self._generators, other._generators))

    def __eq__(self, other):
        return isinstance(other, Numbers) and self._generators == other._generators

    def __bool__(self):
        return bool(self._generators)

    def __repr__(self):
        told = ", ".join([str(number) for number in self._generators])
        return f"Numbers({told})"


# An operator may change nothing but lists of its own. So the functions below do without += and |=.


def _check_generators(generators):
    if not isinstance(generators, tuple):
        raise InvalidGenerators(None)
    for at, number in enumerate(generators):
        if not is_integer_within(number, 1, MOST_NUMBER):
            raise InvalidGenerators(at)


def _least_generators(numbers):
    """Those of these numbers that are no sums of others, ascending."""
    sums = 1
    found = []
    for number in sorted(set(numbers)):
        if not _has_bit(sums, number):
            found.append(number)
            sums = _with_multiples(sums, number)
    return tuple(found)


def _with_multiples(sums, number):
    """The sums up to the most number, told as bits, with any multiple of this number added to them."""
    all_bits = (1 << (MOST_NUMBER + 1)) - 1
    step = number
    while step <= MOST_NUMBER:
        sums = (sums | (sums << step)) & all_bits
        step = step + step
    return sums


def _has_bit(bits, place):
    return (bits >> place) & 1 == 1


def _greatest_divisor(numbers):
    divisor = 0
    for number in numbers:
        divisor = gcd(divisor, number)
    return divisor


def _leasts_by_first(generators):
    if not generators:
        return ()
    return _leasts(generators, generators[0])


def _leasts(generators, modulus):
    """For each remainder by the modulus, a sum of these generators, the least sum that leaves it; None if none does."""
    leasts = [None for place in range(modulus)]
    leasts[0] = 0
    for step in generators:
        # Steps lead round and round among places as far apart as this, once round from the least sum is enough.
        apart = gcd(step, modulus)
        for first in range(apart):
            number = min([least for least in leasts[first::apart] if least is not None], default=None)
            if number is not None:
                for _ in range(modulus // apart):
                    number = number + step
                    known = leasts[number % modulus]
                    if known is not None and known < number:
                        number = known
                    leasts[number % modulus] = number
    return tuple(leasts)


def _holds(leasts, number):
    """Whether this number, from 0 on, is in the set with these least numbers."""
    if not leasts:
        return number == 0
    least = leasts[number % len(leasts)]
    return least is not None and least <= number


def _onward(least, step, start):
    """The first of the numbers least, least + step, .. from the start on."""
    if least >= start:
        return least
    return start + (least - start) % step


def _below(least, step, end):
    """How many of the numbers least, least + step, .. are less than the end."""
    if least >= end:
        return 0
    return (end - 1 - least) // step + 1


def _common_generators(one, other):
    """The generators of what is in both sets."""
    if not one or not other:
        return ()
    ones = _leasts_by_first(one)
    others = _leasts_by_first(other)
    few = [number for number in range(1, MOST_NUMBER + 1) if _holds(ones, number) and _holds(others, number)]
    if not few:
        raise TooMany(MOST_NUMBER)
    found = _least_generators(few)
    modulus = found[0]
    # Both sets hold the modulus, so from the greater of two least numbers on both hold the same steps.
    common = [_greater(a, b) for a, b in zip(_leasts(one, modulus), _leasts(other, modulus))]
    if list(_leasts(found, modulus)) != common:
        raise TooMany(MOST_NUMBER)
    return found


def _greater(one, other):
    """The greater one of two numbers, None if one of them is missing."""
    if one is None or other is None:
        return None
    return max(one, other)
