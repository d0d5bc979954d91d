"""A console: a session that takes lines of text.

Numbers are read and written in pieces here, since Python refuses to do it at once with very long ones.
"""

from alwaysagree.agreeing import days_needed
from alwaysagree.checks import is_name
from alwaysagree.errors import InvalidIndex, InvalidText, InvalidThoughts, NothingToUndo, UnknownName
from alwaysagree.sessions import Session
from alwaysagree.voicing import voices

PIECE = 60
PIECE_END = 10 ** 60


def read_whole(word):
    """The integer from 0 on with these decimal digits; None if they are no such, or have needless zeros."""
    if not (word.isascii() and word.isdigit()) or (word[0] == "0" and word != "0"):
        return None
    digits = word.zfill(len(word) + (-len(word)) % PIECE)
    whole = 0
    for start in range(0, len(digits), PIECE):
        whole = whole * PIECE_END + int(digits[start:start + PIECE])
    return whole


def read_top(word):
    """The integer from 0 on, or behind `-` from 1 on, that is written like this; None if none is."""
    if not word.startswith("-"):
        return read_whole(word)
    whole = read_whole(word[1:])
    return None if whole is None or whole == 0 else -whole


def read_fraction(word):
    """The pair of a top and a bottom, of any worth, that is written like this; None if none is."""
    # Without a sign between them there is no bottom.
    top, _, bottom = word.partition("/")
    pair = (read_top(top), read_whole(bottom))
    return None if None in pair else pair


def whole_text(whole):
    """An integer from 0 on in decimal digits."""
    pieces = []
    while whole >= PIECE_END:
        whole, piece = divmod(whole, PIECE_END)
        pieces.append(str(piece).zfill(PIECE))
    pieces.append(str(whole))
    return "".join(pieces[::-1])


def fraction_text(fraction):
    """A fraction in text."""
    top, bottom = fraction
    sign = "-" if top < 0 else ""
    return sign + whole_text(abs(top)) + "/" + whole_text(bottom)


def tell_text(session):
    """The text of the council."""
    return str(session.council)


def tell_thoughts(session):
    """The thoughts now."""
    return " ".join([fraction_text(thought) for thought in session.thoughts])


def tell_spread(session):
    """The spread now."""
    return fraction_text(session.spread())


def tell_days(session):
    """How many days have gone by."""
    return str(session.days)


def tell_sure(session):
    """Whether the council always agrees."""
    return "yes" if session.sure() else "no"


def tell_needed(session):
    """The days needed."""
    days = days_needed(session.council)
    return "-" if days is None else str(days)


def tell_voices(session):
    """The minds that are heard by all after some word."""
    minds = voices(session.council)
    return " ".join(minds) if len(minds) > 0 else "-"


def do_day(session, words):
    """A day by a way; tells whether these words name an index."""
    way = read_whole(words[0]) if len(words) == 1 else None
    if way is not None:
        session.day(way)
    return way is not None


def do_think(session, words):
    """A thought for a mind; tells whether these words are a name and a fraction."""
    thought = read_fraction(words[1]) if len(words) == 2 and is_name(words[0]) else None
    if thought is not None:
        session.think(words[0], thought)
    return thought is not None


def do_undo(session, words):
    """Takes a change back; tells whether there are no more words."""
    if len(words) == 0:
        session.undo()
    return len(words) == 0


QUESTIONS = {
    "text": tell_text,
    "thoughts": tell_thoughts,
    "spread": tell_spread,
    "days": tell_days,
    "sure": tell_sure,
    "needed": tell_needed,
    "voices": tell_voices,
}
DEEDS = {"day": do_day, "think": do_think, "undo": do_undo}


def outcome(session, deed, words):
    """What is answered to a deed with the words behind its own one."""
    try:
        known = deed(session, words)
    except (InvalidIndex, InvalidThoughts, NothingToUndo, UnknownName):
        return "refused"
    return "done" if known else "what"


def answer(session, line):
    """What a session answers to a line."""
    first, *rest = line.split(" ")
    if line in QUESTIONS:
        tell = QUESTIONS[line]
        return tell(session)
    if first in DEEDS:
        deed = DEEDS[first]
        return outcome(session, deed, rest)
    if line == "help":
        return " ".join(list(QUESTIONS) + list(DEEDS) + ["help"])
    return "what"


class Console:
    """A session that takes lines of text."""

    def __init__(self, council, thoughts):
        self._session = Session(council, thoughts)
        self._told = ()

    def say(self, line):
        """The answer to a line."""
        if not isinstance(line, str):
            raise InvalidText(line)
        told = answer(self._session, line)
        self._told = self._told + (told,)
        return told

    @property
    def said(self):
        """How many lines have been said."""
        return len(self._told)

    @property
    def told(self):
        """All answers so far, in order."""
        return self._told
