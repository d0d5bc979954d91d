"""What thoughts tell of the ways by which the days went."""

from alwaysagree.councils import check_council
from alwaysagree.days import check_thoughts, means_of, without_divisor
from alwaysagree.leaving import all_words, check_many


def groups_of(council):
    """The ways in groups of such as do the same, as ascending tuples of indexes, ordered by their first ones."""
    groups = {}
    for at, way in enumerate(council.ways):
        # Rows give the same mean of all thoughts if they are the same but for a divisor.
        rows = tuple([tuple(without_divisor(row)) for row in way])
        groups[rows] = groups.get(rows, ()) + (at,)
    return tuple(groups.values())


def powers(base, many):
    """So many whole thoughts: 0, and the first powers of a number."""
    found = [(0, 1)]
    power = 1
    for _ in range(many - 1):
        found.append((power, 1))
        power = power * base
    return tuple(found)


def fitting(council, thoughts, later):
    """The indexes of the ways by which a day leads from thoughts to later ones, ascending."""
    check_council(council)
    check_thoughts(council, thoughts)
    check_thoughts(council, later)
    return tuple([at for at, way in enumerate(council.ways) if means_of(thoughts, way) == later])


def words_between(council, thoughts, later, many):
    """All words with so many days that lead from thoughts to later ones, ascending."""
    check_council(council)
    check_thoughts(council, thoughts)
    check_thoughts(council, later)
    check_many(council, many)
    return tuple([word for word, then in all_words(council, many, thoughts, means_of) if then == later])


def alike(council):
    """The ways in groups of such as lead from all thoughts to the same ones."""
    check_council(council)
    return groups_of(council)


def ask(council):
    """Thoughts that any two ways of two groups lead to unlike ones."""
    check_council(council)
    ways = [council.ways[group[0]] for group in groups_of(council)]
    base = 1
    # Where rows differ, the difference of their means of powers is 0 for at most four bases, since the differences of
    # their shares add up to 0, so are not all in the first mind, whose thought is 0. So one of the first bases does it.
    while len(set([means_of(powers(base, len(council)), way) for way in ways])) < len(ways):
        base += 1
    return powers(base, len(council))
