"""Councils: minds, the ways in which they hear each other, and the text of a council."""

from alwaysagree.checks import is_index, is_integer, is_name
from alwaysagree.errors import InvalidIndex, InvalidMinds, InvalidText, InvalidWays, NotACouncil, UnknownName
from alwaysagree.limits import MOST_MINDS, MOST_WAYS, MOST_WEIGHT


def is_weight(value):
    """Whether this is a weight."""
    return is_integer(value) and 0 <= value <= MOST_WEIGHT


def is_row(value, many):
    """Whether this is a row for so many minds."""
    if not isinstance(value, tuple) or len(value) != many:
        return False
    return all([is_weight(weight) for weight in value]) and sum(value) > 0


def is_way(value, many):
    """Whether this is a way for so many minds."""
    if not isinstance(value, tuple) or len(value) != many:
        return False
    return all([is_row(row, many) for row in value])


def check_minds(minds):
    """Raises InvalidMinds for what are no minds of a council."""
    if not isinstance(minds, tuple) or len(minds) == 0:
        raise InvalidMinds(None)
    for at, mind in enumerate(minds):
        if not is_name(mind) or mind in minds[:at] or at == MOST_MINDS:
            raise InvalidMinds(at)


def check_ways(ways, many):
    """Raises InvalidWays for what are no ways of a council with so many minds."""
    if not isinstance(ways, tuple) or len(ways) == 0:
        raise InvalidWays(None)
    for at, way in enumerate(ways):
        if not is_way(way, many) or at == MOST_WAYS:
            raise InvalidWays(at)


def check_council(council):
    """Raises NotACouncil for what is no Council."""
    if not isinstance(council, Council):
        raise NotACouncil(council)


def check_way(council, way):
    """Raises InvalidIndex for what is no index of a way of the council."""
    if not is_index(way, len(council.ways)):
        raise InvalidIndex(way)


def is_mind(council, value):
    """Whether this is the name of a mind of the council."""
    return is_name(value) and value in council.minds


def check_mind(council, mind):
    """Raises UnknownName for what is the name of no mind of the council."""
    if not is_mind(council, mind):
        raise UnknownName(mind)


def way_text(way):
    """The line of a way in the text of a council."""
    return " ".join([",".join([str(weight) for weight in row]) for row in way])


def read_way(line):
    """The way with this line; what is none has None where a weight should stand."""
    return tuple([tuple([read_weight(word) for word in row.split(",")]) for row in line.split(" ")])


def read_weight(word):
    """The weight that is written like this, or None."""
    # Python refuses to make an integer of very many digits, so too long a word is not tried.
    if not (word.isascii() and word.isdigit()) or len(word) > len(str(MOST_WEIGHT)):
        return None
    weight = int(word)
    # Needless zeros get lost on the way there and back.
    return weight if str(weight) == word else None


class Council:
    """A council: minds, and the ways in which they hear each other."""

    def __init__(self, minds, ways):
        check_minds(minds)
        check_ways(ways, len(minds))
        self._minds = minds
        self._ways = ways

    @classmethod
    def read(cls, text):
        """The council with this text."""
        if not isinstance(text, str):
            raise InvalidText(text)
        lines = text.split("\n")
        minds = tuple(lines[0].split(" "))
        ways = tuple([read_way(line) for line in lines[1:]])
        try:
            return cls(minds, ways)
        except (InvalidMinds, InvalidWays):
            raise InvalidText(text) from None

    @property
    def minds(self):
        """The names of the minds, in order."""
        return self._minds

    @property
    def ways(self):
        """The ways, in order."""
        return self._ways

    def hears(self, way, mind):
        """The minds that a mind hears by a way, in order."""
        check_way(self, way)
        check_mind(self, mind)
        row = self._ways[way][self._minds.index(mind)]
        return tuple([name for name, weight in zip(self._minds, row) if weight > 0])

    def __len__(self):
        return len(self._minds)

    def __str__(self):
        return "\n".join([" ".join(self._minds)] + [way_text(way) for way in self._ways])

    def __eq__(self, other):
        # Equal texts are just those of equal minds and ways: a number has one text.
        return isinstance(other, Council) and self._minds == other._minds and self._ways == other._ways
