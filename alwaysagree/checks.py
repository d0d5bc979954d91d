"""Questions about values of any kind, asked before anything is done with them.

Each question asks for the kind first: a value of another kind may have an own idea of what it is equal to.
"""

LETTERS = "abcdefghijklmnopqrstuvwxyz"
LETTERS_AND_DIGITS = "abcdefghijklmnopqrstuvwxyz0123456789"
LONGEST_NAME = 8


def is_integer(value):
    """Whether this is an integer."""
    # Python counts True and False among the integers, the document does not.
    return isinstance(value, int) and not isinstance(value, bool)


def is_index(value, many):
    """Whether this is an index of one of so many elements."""
    # An index below 0 would count from the end.
    return is_integer(value) and 0 <= value < many


def is_name(value):
    """Whether this is a name."""
    if not isinstance(value, str) or not 1 <= len(value) <= LONGEST_NAME:
        return False
    return value[0] in LETTERS and all([sign in LETTERS_AND_DIGITS for sign in value])
