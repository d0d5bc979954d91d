"""Sessions, in which days go by.

A session keeps a state for its beginning and one more behind each change: the council, the thoughts and the days gone
by. All of it are tuples, so the states of a moment can be kept and put back as they were.
"""

from alwaysagree.agreeing import always_agrees
from alwaysagree.checks import is_fraction
from alwaysagree.councils import check_council, check_mind, check_way
from alwaysagree.days import check_thoughts, means_of, spread_of
from alwaysagree.errors import InvalidName, InvalidThoughts, NothingToUndo


class Kept:
    """What was there when a block began, and what was kept for the blocks around this one."""

    def __init__(self, states, before):
        self.states = states
        self.before = before


class Trial:
    """For a `with` statement: behind the block what it is held for has the states that it had when the block began."""

    def __init__(self, held):
        self._held = held
        # A trial may be used for a block within its own block, so what was kept before is not lost.
        self._kept = None

    def __enter__(self):
        self._kept = Kept(self._held._states, self._kept)
        return self._held

    def __exit__(self, kind, value, trace):
        held = self._held
        held._states = self._kept.states
        self._kept = self._kept.before


class Session:
    """A session in which days go by."""

    def __init__(self, council, thoughts):
        check_council(council)
        check_thoughts(council, thoughts)
        self._states = ((council, thoughts, 0),)

    @property
    def council(self):
        """The council that talks now."""
        return self._states[-1][0]

    @property
    def thoughts(self):
        """The thoughts as they are now."""
        return self._states[-1][1]

    @property
    def days(self):
        """How many days have gone by."""
        return self._states[-1][2]

    @property
    def changes(self):
        """How many changes can be taken back."""
        return len(self._states) - 1

    def _go_on(self, council, thoughts, days):
        self._states = self._states + ((council, thoughts, days),)

    def day(self, way):
        """A day by this way."""
        check_way(self.council, way)
        self._go_on(self.council, means_of(self.thoughts, self.council.ways[way]), self.days + 1)

    def change(self, council):
        """From now on this council talks, with the same minds in the same order."""
        check_council(council)
        if council.minds != self.council.minds:
            raise InvalidName(council.minds)
        self._go_on(council, self.thoughts, self.days)

    def think(self, mind, thought):
        """This mind thinks this thought from now on, of its own."""
        check_mind(self.council, mind)
        if not is_fraction(thought):
            raise InvalidThoughts(0)
        at = self.council.minds.index(mind)
        self._go_on(self.council, self.thoughts[:at] + (thought,) + self.thoughts[at + 1:], self.days)

    def undo(self):
        """Takes back the last change that has not been taken back."""
        if self.changes == 0:
            raise NothingToUndo()
        self._states = self._states[:-1]

    def spread(self):
        """The spread of the thoughts now."""
        return spread_of(self.thoughts)

    def sure(self):
        """Whether the council, as it is now, always agrees."""
        return always_agrees(self.council)

    def trial(self):
        """For a `with` statement: behind the block the session is as it was when the block began."""
        return Trial(self)

    def tried(self, action):
        """What a function returns for the session; behind the call the session is as it was ahead of it."""
        with self.trial():
            return action(self)
