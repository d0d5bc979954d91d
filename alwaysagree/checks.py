"""Questions about values of any kind, asked before anything is done with them.

Each question asks for the kind first: a value of another kind may have an own idea of what it is equal to.
"""

from math import gcd

LETTERS = "abcdefghijklmnopqrstuvwxyz"
LETTERS_AND_DIGITS = "abcdefghijklmnopqrstuvwxyz0123456789"
LONGEST_NAME = 8


def is_integer(value):
    """Whether this is an integer."""
    # Python counts True and False among the integers, the document does not.
    return isinstance(value, int) and not isinstance(value, bool)


def is_index(value, many):
    """Whether this is an index of one of so many elements."""
    # An index below 0 would count from the end.
    return is_integer(value) and 0 <= value < many


def is_name(value):
    """Whether this is a name."""
    if not isinstance(value, str) or not 1 <= len(value) <= LONGEST_NAME:
        return False
    return value[0] in LETTERS and all([sign in LETTERS_AND_DIGITS for sign in value])


def is_fraction(value):
    """Whether this is a fraction."""
    if not isinstance(value, tuple) or len(value) != 2:
        return False
    top, bottom = value
    return is_integer(top) and is_integer(bottom) and bottom >= 1 and gcd(top, bottom) == 1


def is_same(one, other):
    """Whether two values of any kind are the same."""
    # Python takes True for equal to 1, also inside tuples; the document does not count it among the integers.
    if one.__class__.__name__ != other.__class__.__name__:
        return False
    if isinstance(one, tuple) and isinstance(other, tuple):
        return len(one) == len(other) and all([is_same(part, facing) for part, facing in zip(one, other)])
    # Within a list each value is equal to itself, whatever it says of itself.
    return [one] == [other]


def has_twice(values):
    """Whether some element of this tuple stands there twice, whatever it is."""
    return any([is_same(values[at], value) for place, value in enumerate(values) for at in range(place)])
