"""The errors of this package: three base classes, and the classes that are raised, each under one of them.

Each class that is raised stands straight under its base class, so each one sets its attribute itself.
"""


class WrongValue(ValueError):
    """A value is not what is asked for."""


class WrongName(LookupError):
    """There is nothing under a name."""


class NoAnswer(ArithmeticError):
    """What is asked for cannot be given or done."""


class InvalidText(WrongValue):
    """A text is none of the kind that is read."""

    def __init__(self, given):
        self.given = given


class InvalidNumber(WrongValue):
    """A number, or a row of weights, is not one that may stand there."""

    def __init__(self, given):
        self.given = given


class InvalidName(WrongValue):
    """A name, or names that belong together, may not stand there."""

    def __init__(self, given):
        self.given = given


class InvalidWish(WrongValue):
    """A wish has none of the forms of wishes."""

    def __init__(self, given):
        self.given = given


class InvalidIndex(WrongValue):
    """An index is none of what it should point to."""

    def __init__(self, given):
        self.given = given


class NotACouncil(WrongValue):
    """A value is no Council."""

    def __init__(self, given):
        self.given = given


class InvalidMinds(WrongValue):
    """Minds are wrong at an index, or altogether (None)."""

    def __init__(self, index):
        self.index = index


class InvalidWays(WrongValue):
    """Ways are wrong at an index, or altogether (None)."""

    def __init__(self, index):
        self.index = index


class InvalidWord(WrongValue):
    """A word is wrong at an index, or altogether (None)."""

    def __init__(self, index):
        self.index = index


class InvalidThoughts(WrongValue):
    """Thoughts are wrong at an index, or altogether (None)."""

    def __init__(self, index):
        self.index = index


class InvalidOffers(WrongValue):
    """Offers are wrong at an index, or altogether (None)."""

    def __init__(self, index):
        self.index = index


class InvalidDoubts(WrongValue):
    """Doubts are wrong at an index, or altogether (None)."""

    def __init__(self, index):
        self.index = index


class UnknownName(WrongName):
    """Nothing has this name."""

    def __init__(self, given):
        self.given = given


class NoDays(NoAnswer):
    """A word of one day or more is needed."""


class NoEnd(NoAnswer):
    """A word does not settle."""


class TooMany(NoAnswer):
    """There are too many to go through."""

    def __init__(self, given):
        self.given = given


class NothingToUndo(NoAnswer):
    """No change is left that could be taken back."""


class Broken(NoAnswer):
    """The wish at an index would not hold."""

    def __init__(self, index):
        self.index = index
