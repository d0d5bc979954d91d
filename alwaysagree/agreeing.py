"""Whether a council always agrees, told by the pairs of lots of minds that can hear apart from each other.

A lot is an integer here: the bit at the index of each mind in it is set. A pair of lots is ordered here, so that it can
be told which lot came to be which one; a pair and its reverse always go together, each by the same ways.

A step leads from lots to their ears, so a row of steps goes back through the days: its first step is the last day.
"""

from alwaysagree.checks import has_twice
from alwaysagree.councils import check_council, check_mind
from alwaysagree.days import check_days
from alwaysagree.errors import InvalidName


def lot_of(indexes):
    """The lot of the minds with these indexes, all different."""
    return sum([1 << at for at in indexes])


def indexes_in(lot, many):
    """The indexes of the minds in a lot, ascending, of so many minds in all."""
    return tuple([at for at in range(many) if (lot >> at) & 1 == 1])


def minds_in(council, lot):
    """The names of the minds of a council that are in a lot, in order."""
    return tuple([council.minds[at] for at in indexes_in(lot, len(council))])


def heard_by_each(rows):
    """For each mind the lot of those that have a part above 0 in its row."""
    return [lot_of([at for at, part in enumerate(row) if part > 0]) for row in rows]


def ears_of_lots(heard):
    """The ears of each lot, at the index that is the lot, by what each mind hears."""
    ears = [0]
    for lot in heard:
        # The lots with this mind come behind those without it, in the same order.
        ears = ears + [without | lot for without in ears]
    return ears


def ears_by_ways(ways):
    """For each way the ears of each lot, by what each mind hears by it."""
    return [ears_of_lots(heard) for heard in ways]


def steps_of(pair, ears):
    """The steps from a pair of lots to pairs without a common mind, each with its way, by the ears by each way."""
    one, other = pair
    reached = [(way, (ears_of[one], ears_of[other])) for way, ears_of in enumerate(ears)]
    return [(way, lots) for way, lots in reached if (lots[0] & lots[1]) == 0]


def steps_from(pairs, ears):
    """All pairs of lots that are reached from these ones, each with the steps from it."""
    steps = {}
    waiting = list(pairs)
    while waiting:
        pair = waiting.pop()
        if pair not in steps:
            steps[pair] = steps_of(pair, ears)
            waiting.extend([lots for _, lots in steps[pair]])
    return steps


def pairs_of(lots):
    """All pairs of these lots that have no mind in common."""
    return [(one, other) for one in lots for other in lots if (one & other) == 0]


def reached_pairs(many, ways):
    """All reached pairs of so many minds, with the steps from them, by what each mind hears by each way."""
    return steps_from(pairs_of([lot_of([at]) for at in range(many)]), ears_by_ways(ways))


def without_last(steps):
    """These pairs with the steps to one another, but for those from which there is no such step."""
    found = {}
    for pair in steps:
        further = [(way, lots) for way, lots in steps[pair] if lots in steps]
        if len(further) > 0:
            found[pair] = further
    return found


def endless(steps):
    """The pairs from which rows of steps never end, with the steps to one another; and the most pairs of other rows."""
    left = steps
    count = 0
    # The last pairs of all rows are taken away, so each row that ends gets shorter by one.
    longer = without_last(left)
    while len(longer) < len(left):
        left = longer
        count += 1
        longer = without_last(left)
    return longer, count


def longest_row(steps):
    """How many pairs stand in the longest row of steps; None if a row comes back to a pair where it was."""
    left, count = endless(steps)
    return count if len(left) == 0 else None


def agree(many, ways):
    """Whether so many minds always agree, by what each mind hears by each way."""
    return longest_row(reached_pairs(many, ways)) is not None


def heard_by_ways(council):
    """For each way of a council, for each mind, the lot that it hears."""
    return [heard_by_each(way) for way in council.ways]


def row_back(pair, steps, most):
    """The ways of a shortest row of at most so many steps from a pair back to it; None if there is no such row."""
    rows = {pair: ()}
    ends = [pair]
    for _ in range(most):
        further = []
        for end in ends:
            for way, lots in steps[end]:
                if lots == pair:
                    return rows[end] + (way,)
                if lots not in rows:
                    rows[lots] = rows[end] + (way,)
                    further.append(lots)
        ends = further
    return None


def first_apart(lots):
    """The first pair of these lots that has no mind in common; None if there is none."""
    for one in lots:
        for other in lots:
            if (one & other) == 0:
                return (one, other)
    return None


def kept_at_once(ears):
    """The row of one way that leads from a pair of lots back to it, for the first such pair, and its lots; or None."""
    found = []
    for way, ears_of in enumerate(ears):
        pair = first_apart([lot for lot, heard in enumerate(ears_of) if lot == heard and lot > 0])
        if pair is not None:
            found.append((pair, way))
    if len(found) == 0:
        return None
    (one, other), way = min(found)
    return (way,), one, other


def kept_later(many, ears):
    """A shortest row of ways that leads from a pair of lots back to it, for the first such pair, and its lots."""
    pairs = pairs_of(list(range(1, 1 << many)))
    steps, _ = endless(steps_from(pairs, ears))
    found = None
    most = len(steps)
    # The reverse of a pair has a row back of the same length, so one of both is enough.
    for one, other in [pair for pair in pairs if pair in steps and pair[0] < pair[1]]:
        row = row_back((one, other), steps, most)
        if row is not None:
            found = (row, one, other)
            most = len(row) - 1
    return found


def keeps_in(word, ears, lot):
    """Whether after a word all sources of a lot are in the lot, by the ears by each way."""
    found = lot
    # What a mind hears on the last day are thoughts of the day before, and so on back to the first day.
    for way in word[::-1]:
        found = ears[way][found]
    return (found | lot) == lot


def keeps_apart(council, word, one, other):
    """Whether two tuples of names of minds, all of them different, are kept apart by a word, of any number of days."""
    if has_twice(one + other):
        return False
    ears = ears_by_ways(heard_by_ways(council))
    lots = [lot_of([council.minds.index(mind) for mind in names]) for names in (one, other)]
    return all([keeps_in(word, ears, lot) for lot in lots])


def check_lot(council, lot):
    """Raises InvalidName for what is no tuple of different elements, and UnknownName for one with no name of a mind."""
    if not isinstance(lot, tuple) or len(lot) == 0 or has_twice(lot):
        raise InvalidName(lot)
    for mind in lot:
        check_mind(council, mind)


def always_agrees(council):
    """Whether a council always agrees."""
    check_council(council)
    return agree(len(council), heard_by_ways(council))


def days_needed(council):
    """The days needed; None if the council does not always agree."""
    check_council(council)
    # One day more than the steps of a row: so many as it has pairs.
    return longest_row(reached_pairs(len(council), heard_by_ways(council)))


def kept_apart(council):
    """A word, and two lots of indexes of minds that it keeps apart; None if the council always agrees."""
    check_council(council)
    ways = heard_by_ways(council)
    # There are far more pairs of lots than reached ones, so all of them are looked at only where it is worth it.
    if agree(len(council), ways):
        return None
    ears = ears_by_ways(ways)
    row, one, other = kept_at_once(ears) or kept_later(len(council), ears)
    return row[::-1], indexes_in(one, len(council)), indexes_in(other, len(council))


def is_kept(council, word, one, other):
    """Whether two lots of names of minds are kept apart by a word."""
    check_council(council)
    check_days(council, word)
    check_lot(council, one)
    check_lot(council, other)
    return keeps_apart(council, word, one, other)


def apart_pairs(council):
    """How many unordered pairs of lots are reached."""
    check_council(council)
    return len(reached_pairs(len(council), heard_by_ways(council))) // 2
