"""Days: what the minds think after a word, and how much of whose first thoughts goes into it.

The shares of all minds are kept as rows of integers here, one row for each mind, all rows with the same sum: a share is
its integer divided by this sum. So all steps are exact, and only what is returned is made a fraction.
"""

from math import gcd, lcm

from alwaysagree.checks import is_fraction, is_index
from alwaysagree.councils import check_council, check_mind, is_row
from alwaysagree.errors import InvalidNumber, InvalidThoughts, InvalidWord, NoDays
from alwaysagree.limits import MOST_DAYS


def check_word(council, word):
    """Raises InvalidWord for what is no word of the council."""
    if not isinstance(word, tuple):
        raise InvalidWord(None)
    for at, way in enumerate(word):
        if at == MOST_DAYS or not is_index(way, len(council.ways)):
            raise InvalidWord(at)


def check_days(council, word):
    """Raises InvalidWord for what is no word of the council, and NoDays for the empty one."""
    check_word(council, word)
    if len(word) == 0:
        raise NoDays()


def check_fractions(values):
    """Raises InvalidThoughts for a tuple with an element that is no fraction."""
    for at, value in enumerate(values):
        if not is_fraction(value):
            raise InvalidThoughts(at)


def check_thoughts(council, thoughts):
    """Raises InvalidThoughts for what are no thoughts of the minds of the council."""
    if not isinstance(thoughts, tuple) or len(thoughts) != len(council):
        raise InvalidThoughts(None)
    check_fractions(thoughts)


def lowest(top, bottom):
    """The fraction with this worth, for a bottom from 1 on."""
    common = gcd(top, bottom)
    return (top // common, bottom // common)


def over_one_bottom(fractions):
    """The tops of these fractions when all are written over the same bottom, and this bottom."""
    common = 1
    for _, bottom in fractions:
        common = lcm(common, bottom)
    return [top * (common // bottom) for top, bottom in fractions], common


def weighed(weights, values):
    """The sum of integers, each one times its weight."""
    return sum([weight * value for weight, value in zip(weights, values)])


def means_of(thoughts, rows):
    """The means of thoughts with the weights of each of these rows, which may be of any size.

    With the rows of a way these are the thoughts a day later.
    """
    tops, bottom = over_one_bottom(thoughts)
    return tuple([lowest(weighed(row, tops), bottom * sum(row)) for row in rows])


def spread_of(thoughts):
    """The greatest thought less the least one."""
    tops, bottom = over_one_bottom(thoughts)
    return lowest(max(tops) - min(tops), bottom)


def without_divisor(row):
    """A row of integers, not all 0, divided by what divides all of them."""
    common = 0
    for part in row:
        common = gcd(common, part)
    return [part // common for part in row]


def evened(rows):
    """These rows of integers, each one multiplied or divided so that all have the same sum, and a small one."""
    least = [without_divisor(row) for row in rows]
    common = 1
    for row in least:
        common = lcm(common, sum(row))
    return [[part * (common // sum(parts)) for part in parts] for parts in least]


def first_rows(many):
    """The rows of the shares of so many minds before the first day: each one has all of its own."""
    return [[1 if mind == own else 0 for mind in range(many)] for own in range(many)]


def rows_after_day(rows, way):
    """The rows of the shares a day later, by this way."""
    columns = list(zip(*rows))
    return evened([[weighed(weights, column) for column in columns] for weights in way])


def rows_after(council, word):
    """The rows of the shares after a word."""
    rows = first_rows(len(council))
    for way in word:
        rows = rows_after_day(rows, council.ways[way])
    return rows


def minds_with_part(council, row):
    """The minds of a council whose part of a row is above 0, in order."""
    return tuple([mind for mind, part in zip(council.minds, row) if part > 0])


def row_shares(row):
    """The parts of a row as fractions of its sum."""
    return tuple([lowest(part, sum(row)) for part in row])


def after(council, thoughts, word):
    """The thoughts after a word."""
    check_council(council)
    check_thoughts(council, thoughts)
    check_word(council, word)
    return means_of(thoughts, rows_after(council, word))


def shares(council, word):
    """The shares of all minds after a word, in order."""
    check_council(council)
    check_word(council, word)
    return tuple([row_shares(row) for row in rows_after(council, word)])


def sources(council, word, mind):
    """The sources of a mind after a word, in order."""
    check_council(council)
    check_word(council, word)
    check_mind(council, mind)
    return minds_with_part(council, rows_after(council, word)[council.minds.index(mind)])


def spread(thoughts):
    """The greatest thought less the least one."""
    if not isinstance(thoughts, tuple) or len(thoughts) == 0:
        raise InvalidThoughts(None)
    check_fractions(thoughts)
    return spread_of(thoughts)


def mean(council, thoughts, weights):
    """The mean of thoughts with the weights of a row."""
    check_council(council)
    check_thoughts(council, thoughts)
    if not is_row(weights, len(council)):
        raise InvalidNumber(weights)
    return means_of(thoughts, [weights])[0]
