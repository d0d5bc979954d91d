"""Councils to be tried, and what the document says of them, worked out a second time, slowly, apart from the program."""

import itertools
import random
from fractions import Fraction

from alwaysagree.councils import Council
from alwaysagree.limits import MOST_WEIGHT

NAMES = ("a", "b1", "cyd", "d234", "eeeeeeee", "f")
GOOD = Council.read("ann bob cyd\n1,1,0 0,1,0 0,1,1\n0,1,1 0,1,0 1,0,1")
BAD = Council(GOOD.minds, GOOD.ways + (((1, 0, 0), (0, 1, 0), (0, 0, 1)),))
DUO = Council(("ann", "bob"), (((1, 1), (1, 3)),))
ONE = Council(("x",), (((1,),), ((MOST_WEIGHT,),)))
# By its one way the two minds change places.
SWAP = Council(("a", "b"), (((0, 1), (1, 0)),))
# The minds of the first three and those of the last three hear each other in a ring; the ring of all six is the last way.
RINGS = Council.read(
    "a b c d e f\n0,1,0,0,0,0 0,0,1,0,0,0 1,0,0,0,0,0 0,0,0,0,1,0 0,0,0,0,0,1 0,0,0,1,0,0\n"
    "0,1,0,0,0,0 0,0,1,0,0,0 0,0,0,1,0,0 0,0,0,0,1,0 0,0,0,0,0,1 1,0,0,0,0,0")
# Six minds with names of eight signs, and six ways with great weights, the greatest one among them.
GREAT = Council(
    tuple([f"mind{at}xyz" for at in range(6)]),
    tuple([tuple([tuple([MOST_WEIGHT - 5 * own - other - way if (own * (way + 1) + other) % 6 < 3 else 0
                         for other in range(6)]) for own in range(6)]) for way in range(6)]))
# Councils that always agree, with the days that they need.
SLOW = (
    (Council.read("a b c\n0,1,0 1,0,1 1,0,0\n1,1,0 0,0,1 1,0,0"), 5),
    (Council.read("a b c d\n0,0,0,1 1,0,1,0 0,0,1,0 0,1,0,0\n1,0,0,1 1,0,0,0 0,0,0,1 0,1,1,0"), 12),
    (Council.read("a b c d e f\n0,1,0,0,0,0 0,0,1,0,0,0 0,0,0,1,0,0 0,0,0,0,1,0 0,0,0,0,0,1 1,1,0,0,0,0"), 13),
    (Council.read("a b c d e\n1,0,0,1,0 1,0,0,1,0 0,1,0,0,0 0,0,0,0,1 1,1,1,1,0\n"
                  "0,1,0,0,0 0,0,1,0,0 0,0,0,1,0 0,1,0,0,1 1,0,0,0,0"), 21),
    (Council.read("a b c d e f\n0,1,0,0,0,0 0,0,0,0,1,1 0,1,0,0,0,1 0,0,0,1,0,0 1,0,0,0,0,0 0,0,0,1,0,0\n"
                  "0,1,1,0,0,0 0,0,1,0,0,0 0,0,0,1,0,0 0,0,0,0,1,0 0,0,0,0,0,1 1,0,0,0,0,0"), 31),
)

# Councils that do not always agree; the shortest words that keep lots apart have 20 days and 18.
LONG = (
    Council.read("a b c d e f\n0,0,0,0,0,1 0,0,0,0,1,0 1,0,0,0,0,0 0,1,0,0,0,0 0,1,1,1,0,1 0,1,1,0,1,0\n"
                 "0,0,0,1,0,0 1,0,1,0,0,1 0,1,0,0,0,0 0,0,0,0,1,0 0,0,1,0,0,0 1,0,0,0,0,0"),
    Council.read("a b c d e f\n0,0,0,0,0,1 0,0,1,0,0,0 0,0,0,0,1,0 1,0,0,0,0,0 0,0,1,1,1,1 0,1,0,1,1,0\n"
                 "0,0,0,0,1,0 0,0,0,1,0,0 0,0,0,1,0,0 1,1,0,0,1,1 0,1,0,0,0,0 1,0,0,0,0,0"),
)


def drawn_council(draw, many, count, holes, weights):
    """A council of so many minds with so many ways; in about `holes` of ten places a weight is 0."""
    def row():
        found = (0,)
        while sum(found) == 0:
            found = tuple([0 if draw.randrange(10) < holes else draw.choice(weights) for _ in range(many)])
        return found
    return Council(NAMES[:many], tuple([tuple([row() for _ in range(many)]) for _ in range(count)]))


def drawn_councils(seed, number, most_minds=6, most_ways=6, weights=(1, 2, 3, 7, MOST_WEIGHT - 1, MOST_WEIGHT)):
    """So many councils, the same ones each time, of all sizes up to these."""
    draw = random.Random(seed)
    sizes = list(itertools.product(range(1, most_minds + 1), range(1, most_ways + 1)))
    return [drawn_council(draw, *sizes[at % len(sizes)], draw.choice((0, 3, 5, 7, 8, 9)), weights) for at in range(number)]


def all_ways(many):
    """All ways of so many minds with weights of 0 and 1."""
    rows = [row for row in itertools.product((0, 1), repeat=many) if sum(row) > 0]
    return list(itertools.product(rows, repeat=many))


def small_councils():
    """All councils with weights of 0 and 1 that have two minds and up to two ways, or three minds and one way."""
    found = [Council(("a", "b"), (way,)) for way in all_ways(2)]
    found += [Council(("a", "b"), ways) for ways in itertools.product(all_ways(2), repeat=2)]
    return found + [Council(("a", "b", "c"), (way,)) for way in all_ways(3)]


def named_councils():
    return [GOOD, BAD, DUO, ONE, SWAP, RINGS] + [council for council, _ in SLOW]


def drawn_word(draw, council, days):
    return tuple([draw.randrange(len(council.ways)) for _ in range(days)])


def words_of(council, days):
    """All words with so many days, ascending."""
    return list(itertools.product(range(len(council.ways)), repeat=days))


def drawn_thoughts(draw, many):
    """Thoughts, among them such as are below 0, or have thirty figures."""
    tops = (0, 1, -1, 5, -7, 12, 10 ** 29 + 1, -(10 ** 30) + 1, draw.randrange(10 ** 29, 10 ** 30))
    bottoms = (1, 1, 2, 3, 6, 10 ** 29 + 3, draw.randrange(10 ** 29, 10 ** 30))
    return tuple([pair(Fraction(draw.choice(tops), draw.choice(bottoms))) for _ in range(many)])


def pair(fraction):
    return (fraction.numerator, fraction.denominator)


def number(thought):
    return Fraction(thought[0], thought[1])


def mean_by(weights, values):
    return sum([weight * value for weight, value in zip(weights, values)], Fraction(0)) / sum(weights)


def numbers_after(council, numbers, word):
    """The thoughts after a word, as the days go by."""
    for way in word:
        numbers = [mean_by(row, numbers) for row in council.ways[way]]
    return list(numbers)


def shares_after(council, word):
    """What each mind thinks if one mind alone has thought 1 at first: the share of this one; a list for each mind."""
    many = len(council)
    columns = [numbers_after(council, [int(at == one) for at in range(many)], word) for one in range(many)]
    return [[column[at] for column in columns] for at in range(many)]


def hearing(way):
    """For each mind the set of the indexes of those that it hears."""
    return [frozenset([at for at, weight in enumerate(row) if weight]) for row in way]


def sources_a_day_later(found, way):
    """The sources of all minds a day later, by this way."""
    return tuple([frozenset().union(*[found[at] for at in heard]) for heard in hearing(way)])


def sources_after(council, word):
    """The sources of all minds after a word of any length, as sets of indexes."""
    found = tuple([frozenset([at]) for at in range(len(council))])
    for way in word:
        found = sources_a_day_later(found, council.ways[way])
    return found


def all_share(found):
    """Whether each two minds share a source."""
    return all(one & other for one, other in itertools.combinations(found, 2))


def days_after_which_all_share(council):
    """The least number of days after which, for every word, each two minds share a source; None if there is none."""
    found = {tuple([frozenset([at]) for at in range(len(council))])}
    seen = []
    while True:
        found = {sources for sources in found if not all_share(sources)}
        if not found:
            return len(seen)
        if found in seen:
            return None
        seen.append(found)
        found = {sources_a_day_later(sources, way) for sources in found for way in council.ways}


def kept(council, word, one, other):
    """Whether a word keeps two lots of indexes apart."""
    found = sources_after(council, word)
    return not set(one) & set(other) and all(found[at] <= set(lot) for lot in (one, other) for at in lot)


def single_pairs(council):
    """All unordered pairs of single minds, as sets of sets of indexes."""
    return {frozenset([frozenset([one]), frozenset([other])])
            for one, other in itertools.combinations(range(len(council)), 2)}


def steps_from(council, pairs):
    """All unordered pairs of lots without a common mind that are the ears of both lots of one of these pairs."""
    found = set()
    for way in council.ways:
        heard = hearing(way)
        for lots in pairs:
            one, other = [frozenset().union(*[heard[at] for at in lot]) for lot in lots]
            if not one & other:
                found.add(frozenset([one, other]))
    return found


def reached(council):
    """All unordered pairs of lots that are reached."""
    found, more = set(), single_pairs(council)
    while more:
        found |= more
        more = steps_from(council, more) - found
    return found


def days_till_no_pair_is_left(council):
    """The least number of days after which no pair of single minds has sources without a common one; None if none is."""
    pairs, seen = single_pairs(council), []
    while pairs not in seen:
        if not pairs:
            return len(seen)
        seen.append(pairs)
        pairs = steps_from(council, pairs)
    return None


def ring(many):
    """Minds that hear the next one in a ring by the first way, and themselves but for one of them by the second one.

    Its voices need very long words.
    """
    def rows(heard):
        return tuple([tuple([int(other == own) for other in range(many)]) for own in heard])
    turn = [(at - 1) % many for at in range(many)]
    return Council(NAMES[:many], (rows(turn), rows([0 if at == 1 else at for at in range(many)])))


def reached_by(council, mind, word):
    """The indexes of the minds of which a mind, by its index, is a source after a word of any length."""
    return tuple([at for at, found in enumerate(sources_after(council, word)) if mind in found])


def with_ears(council, ears):
    """The council with these ears more, triples of a way and two names of minds, with the weight 1."""
    ways = [[list(row) for row in way] for way in council.ways]
    for way, mind, other in ears:
        ways[way][council.minds.index(mind)][council.minds.index(other)] = 1
    return Council(council.minds, tuple([tuple([tuple(row) for row in way]) for way in ways]))


def missing_ears(council):
    """All triples of a way and two names of minds of which the first one does not hear the second one by the way."""
    return [(at, mind, other) for at, way in enumerate(council.ways) for mind, row in zip(council.minds, way)
            for other, weight in zip(council.minds, row) if weight == 0]
