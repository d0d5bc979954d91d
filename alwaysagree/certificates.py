"""Claims with certificates that the checker accepts."""

from alwaysagree.agreeing import days_needed, kept_apart
from alwaysagree.ending import end_shares
from alwaysagree.leaving import left_after
from alwaysagree.voicing import voice_word


def named(council, indexes):
    """The names of the minds with these indexes."""
    return tuple([council.minds[at] for at in indexes])


def certify_council(council):
    """That a council always agrees, or that it does not."""
    days = days_needed(council)
    if days is not None:
        return ("always", str(council), days), ()
    word, one, other = kept_apart(council)
    return ("not always", str(council)), (word, named(council, one), named(council, other))


def certify_left(council, word):
    """What is left after a word."""
    part = left_after(council, word)
    return ("left", str(council), word, part), ()


def certify_end(council, word):
    """The end shares of a word."""
    shares = end_shares(council, word)
    return ("end", str(council), word, shares), ()


def certify_voice(council, mind):
    """A word after which a mind is a source of all; None if there is none."""
    word = voice_word(council, mind)
    if word is None:
        return None
    return ("voice", str(council), mind), word
