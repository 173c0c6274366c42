"""What integers and names are, for all modules that check what is passed."""

from evenboxes.errors import InvalidNumber

_LETTERS = "abcdefghijklmnopqrstuvwxyz"
_LETTERS_AND_DIGITS = "abcdefghijklmnopqrstuvwxyz0123456789"
_LONGEST_NAME = 8


def is_integer(value):
    """Whether this is an integer; True and False are none."""
    return isinstance(value, int) and not isinstance(value, bool)


def is_number(value):
    """Whether this is an integer from 0 on."""
    return is_integer(value) and value >= 0


def check_number(value):
    """Raises InvalidNumber if this is no integer from 0 on."""
    if not is_number(value):
        raise InvalidNumber(value)


def is_integer_within(value, least, most):
    """Whether this is an integer from the least to the most one."""
    return is_integer(value) and least <= value <= most


def is_tuple_of(value, many):
    """Whether this is a tuple with so many elements."""
    return isinstance(value, tuple) and len(value) == many


def are_integers(value):
    """Whether this is a tuple of integers."""
    return isinstance(value, tuple) and all([is_integer(part) for part in value])


def is_name(value):
    """Whether this is a letter and up to seven letters or digits behind it."""
    if not isinstance(value, str) or not 1 <= len(value) <= _LONGEST_NAME:
        return False
    return value[0] in _LETTERS and all([sign in _LETTERS_AND_DIGITS for sign in value])
