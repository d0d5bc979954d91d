"""What a council thinks in the end if a word is told over and over."""

from alwaysagree.agreeing import agree, heard_by_each
from alwaysagree.councils import check_council
from alwaysagree.days import check_days, check_thoughts, means_of, minds_with_part, row_shares, rows_after
from alwaysagree.errors import NoEnd


def without(values, at):
    """A list without its element at an index."""
    return values[:at] + values[at + 1:]


def determinant(rows):
    """The determinant of square rows of integers."""
    if len(rows) == 0:
        return 1
    total = 0
    sign = 1
    for at, value in enumerate(rows[0]):
        if value != 0:
            total += sign * value * determinant([without(row, at) for row in rows[1:]])
        sign = -sign
    return total


def end_weights(rows):
    """The end shares as a row of integers, for the rows of the shares after a word that settles.

    A day by these rows leaves the end shares as they are. The row that is left so is found as the minors of what the
    rows take away from each mind: whole numbers throughout, and only such minds have one above 0 as are heard by all
    in the end.
    """
    whole = sum(rows[0])
    taken = [[whole - part if at == own else -part for at, part in enumerate(row)] for own, row in enumerate(rows)]
    return [determinant([without(row, at) for row in without(taken, at)]) for at in range(len(rows))]


def settled(rows):
    """Whether a word settles, by the rows of the shares after it."""
    # Told over and over, the word is like the only way of a council.
    return agree(len(rows), [heard_by_each(rows)])


def end_of(council, word):
    """The end shares of a word as a row of integers; raises NoEnd if the word does not settle."""
    rows = rows_after(council, word)
    if not settled(rows):
        raise NoEnd()
    return end_weights(rows)


def settles(council, word):
    """Whether a word, told over and over, settles."""
    check_council(council)
    check_days(council, word)
    return settled(rows_after(council, word))


def end_shares(council, word):
    """The end shares of a word."""
    check_council(council)
    check_days(council, word)
    return row_shares(end_of(council, word))


def end_thought(council, thoughts, word):
    """The thought to which all minds come if a word is told over and over."""
    check_council(council)
    check_thoughts(council, thoughts)
    check_days(council, word)
    return means_of(thoughts, [end_of(council, word)])[0]


def leaders(council, word):
    """The minds whose end share is above 0, in order."""
    check_council(council)
    check_days(council, word)
    return minds_with_part(council, end_of(council, word))
