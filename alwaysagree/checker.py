"""A small checker of claims and their certificates.

It takes nothing on trust: each value is looked at for its kind before anything is done with it.
"""

from alwaysagree.agreeing import days_needed, keeps_apart, lot_of
from alwaysagree.checks import is_fraction, is_index, is_integer
from alwaysagree.councils import Council, is_mind
from alwaysagree.ending import end_shares, settles
from alwaysagree.errors import InvalidText
from alwaysagree.leaving import left_after
from alwaysagree.limits import MOST_DAYS
from alwaysagree.voicing import listeners_by_ways, lot_reached


def is_empty(value):
    """Whether this is the empty tuple."""
    return isinstance(value, tuple) and len(value) == 0


def is_long_word(council, value):
    """Whether this is a word of the council, but that it may have any number of days."""
    return isinstance(value, tuple) and all([is_index(way, len(council.ways)) for way in value])


def is_word(council, value):
    """Whether this is a word of the council."""
    return is_long_word(council, value) and len(value) <= MOST_DAYS


def is_lot(council, value):
    """Whether this is a tuple of names of minds of the council, at least one."""
    return isinstance(value, tuple) and len(value) > 0 and all([is_mind(council, mind) for mind in value])


def is_always(council, rest, certificate):
    """Whether a council always agrees, with so many days needed."""
    if len(rest) != 1 or not is_integer(rest[0]) or not is_empty(certificate):
        return False
    return days_needed(council) == rest[0]


def is_not_always(council, rest, certificate):
    """Whether a word keeps two lots apart."""
    if len(rest) != 0 or not isinstance(certificate, tuple) or len(certificate) != 3:
        return False
    word, one, other = certificate
    if not is_long_word(council, word) or len(word) == 0 or not is_lot(council, one) or not is_lot(council, other):
        return False
    return keeps_apart(council, word, one, other)


def is_left(council, rest, certificate):
    """Whether so much is left after a word."""
    if len(rest) != 2 or not is_word(council, rest[0]) or not is_fraction(rest[1]) or not is_empty(certificate):
        return False
    return left_after(council, rest[0]) == rest[1]


def is_end(council, rest, certificate):
    """Whether a word settles with these end shares."""
    if len(rest) != 2 or not is_word(council, rest[0]) or len(rest[0]) == 0 or not is_empty(certificate):
        return False
    if not isinstance(rest[1], tuple) or not all([is_fraction(share) for share in rest[1]]):
        return False
    return settles(council, rest[0]) and end_shares(council, rest[0]) == rest[1]


def is_voice(council, rest, certificate):
    """Whether a mind is a source of all minds after a word."""
    if len(rest) != 1 or not is_mind(council, rest[0]) or not is_long_word(council, certificate):
        return False
    lot = lot_reached(council.minds.index(rest[0]), listeners_by_ways(council), certificate)
    return lot == lot_of(list(range(len(council))))


KINDS = {
    "always": is_always,
    "not always": is_not_always,
    "left": is_left,
    "end": is_end,
    "voice": is_voice,
}


def accepts(claim, certificate):
    """Whether this is a claim for the checker with a certificate for it."""
    if not isinstance(claim, tuple) or len(claim) < 2 or not isinstance(claim[0], str) or claim[0] not in KINDS:
        return False
    is_right = KINDS[claim[0]]
    try:
        council = Council.read(claim[1])
    except InvalidText:
        return False
    return is_right(council, claim[2:], certificate)
