"""What can be left of the spread of thoughts after a word, and after any word with so many days."""

from alwaysagree.checks import is_index
from alwaysagree.councils import check_council
from alwaysagree.days import check_word, first_rows, lowest, rows_after, rows_after_day
from alwaysagree.errors import InvalidNumber, TooMany
from alwaysagree.limits import MOST_DAYS, MOST_WORDS


def check_many(council, many):
    """Raises InvalidNumber for no number of days of a word, and TooMany if too many words have so many days."""
    # The numbers of days from 0 to the greatest one are the indexes of one more.
    if not is_index(many, MOST_DAYS + 1):
        raise InvalidNumber(many)
    count = 1
    for _ in range(many):
        count = count * len(council.ways)
    if count > MOST_WORDS:
        raise TooMany(count)


def gap(one, other):
    """What two rows with the same sum have not in common."""
    return sum(one) - sum([min(part, facing) for part, facing in zip(one, other)])


def pairs_below(many):
    """All pairs of indexes of so many elements, the lesser one first, ascending."""
    return [(one, other) for one in range(many) for other in range(one + 1, many)]


def left_of(rows):
    """The top of what is left, and its bottom, for the rows of the shares after a word."""
    gaps = [gap(rows[one], rows[other]) for one, other in pairs_below(len(rows))]
    return max(gaps, default=0), sum(rows[0])


def all_words(council, many, first, step):
    """All words with so many days, ascending, each with what a step by the way of each day makes of the first."""
    found = [((), first)]
    for _ in range(many):
        found = [(word + (at,), step(made, way)) for word, made in found for at, way in enumerate(council.ways)]
    return found


def worst(council, many):
    """The greatest of what is left after all words with so many days, and the first word that leaves so much."""
    most, most_bottom, first = -1, 1, None
    for word, rows in all_words(council, many, first_rows(len(council)), rows_after_day):
        top, bottom = left_of(rows)
        if top * most_bottom > most * bottom:
            most, most_bottom, first = top, bottom, word
    return lowest(most, most_bottom), first


def left_after(council, word):
    """What is left after a word."""
    check_council(council)
    check_word(council, word)
    top, bottom = left_of(rows_after(council, word))
    return lowest(top, bottom)


def farthest(council, word):
    """The first pair of minds for which just so much is left after a word; None for one mind."""
    check_council(council)
    check_word(council, word)
    rows = rows_after(council, word)
    most, _ = left_of(rows)
    for one, other in pairs_below(len(rows)):
        if gap(rows[one], rows[other]) == most:
            return (council.minds[one], council.minds[other])
    return None


def worst_left(council, many):
    """The greatest of what is left after all words with so many days."""
    check_council(council)
    check_many(council, many)
    left, _ = worst(council, many)
    return left


def worst_word(council, many):
    """The first word with so many days after which as much is left as after any of them."""
    check_council(council)
    check_many(council, many)
    _, word = worst(council, many)
    return word
