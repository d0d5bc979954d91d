"""Books of councils, with wishes that hold after each change.

As a session, a book keeps a state for its beginning and one more behind each change: the councils by their names and
the wishes. A dict of councils is never changed once it stands in a state.
"""

from alwaysagree.agreeing import always_agrees, days_needed
from alwaysagree.checks import is_index, is_integer, is_name
from alwaysagree.councils import check_council, is_mind
from alwaysagree.ending import settles
from alwaysagree.errors import Broken, InvalidIndex, InvalidName, InvalidWish, NothingToUndo, UnknownName
from alwaysagree.sessions import Trial
from alwaysagree.voicing import voice_word


def is_wish(value):
    """Whether this has one of the forms of wishes."""
    if not isinstance(value, tuple) or len(value) < 2 or not isinstance(value[0], str) or not is_name(value[1]):
        return False
    if value[0] == "always":
        return len(value) == 2
    if value[0] == "voice":
        return len(value) == 3 and is_name(value[2])
    return value[0] in ("days", "way") and len(value) == 3 and is_integer(value[2]) and value[2] >= 0


def needs_at_most(council, days):
    """Whether a council always agrees, with at most so many days needed."""
    needed = days_needed(council)
    return needed is not None and needed <= days


def holds(councils, wish):
    """Whether a wish holds with these councils."""
    council = councils[wish[1]]
    if wish[0] == "always":
        return always_agrees(council)
    if wish[0] == "days":
        return needs_at_most(council, wish[2])
    if wish[0] == "way":
        return is_index(wish[2], len(council.ways)) and settles(council, (wish[2],))
    return is_mind(council, wish[2]) and voice_word(council, wish[2]) is not None


def check_wishes(councils, wishes):
    """Raises Broken for wishes of which one does not hold with these councils."""
    for at, wish in enumerate(wishes):
        if not holds(councils, wish):
            raise Broken(at)


class BookTrial(Trial):
    """For a `with` statement: if the block ends with an exception the book is as it was when the block began."""

    def __exit__(self, kind, value, trace):
        held = self._held
        if kind is not None:
            held._states = self._kept.states
        self._kept = self._kept.before


class Book:
    """A book of councils under names, with wishes."""

    def __init__(self):
        self._states = (({}, ()),)

    @property
    def names(self):
        """The names of the councils, ascending."""
        return tuple(sorted(self._states[-1][0]))

    @property
    def wishes(self):
        """The wishes, in order."""
        return self._states[-1][1]

    @property
    def changes(self):
        """How many changes can be taken back."""
        return len(self._states) - 1

    def _councils(self):
        return self._states[-1][0]

    def _go_on(self, councils, wishes):
        self._states = self._states + ((councils, wishes),)

    def __setitem__(self, name, council):
        if not is_name(name):
            raise InvalidName(name)
        check_council(council)
        councils = dict(self._councils())
        councils[name] = council
        check_wishes(councils, self.wishes)
        self._go_on(councils, self.wishes)

    def __getitem__(self, name):
        if name not in self:
            raise UnknownName(name)
        return self._councils()[name]

    def wish(self, wish):
        """A wish more, behind the others."""
        if not is_wish(wish):
            raise InvalidWish(wish)
        if wish[1] not in self:
            raise UnknownName(wish[1])
        wishes = self.wishes + (wish,)
        check_wishes(self._councils(), wishes)
        self._go_on(self._councils(), wishes)

    def lift(self, index):
        """Takes a wish away."""
        if not is_index(index, len(self.wishes)):
            raise InvalidIndex(index)
        self._go_on(self._councils(), self.wishes[:index] + self.wishes[index + 1:])

    def undo(self):
        """Takes back the last change that has not been taken back."""
        if self.changes == 0:
            raise NothingToUndo()
        self._states = self._states[:-1]

    def __contains__(self, value):
        return is_name(value) and value in self._councils()

    def __len__(self):
        return len(self._states[-1][0])

    def __bool__(self):
        # A book without councils has the length 0, and is true as well.
        return True

    def __iter__(self):
        raise TypeError("a book is not iterated over")

    def trial(self):
        """For a `with` statement: if the block ends with an exception the book is as it was when the block began."""
        return BookTrial(self)

    def tried(self, action):
        """What a function returns for the book; the book is put back if the function raises an exception."""
        with self.trial():
            return action(self)
