import itertools
import random
import unittest
from fractions import Fraction

from alwaysagree.councils import Council
from alwaysagree.days import after
from alwaysagree.errors import InvalidNumber, InvalidThoughts, NotACouncil, TooMany
from alwaysagree.limits import MOST_WEIGHT
from alwaysagree.telling import alike, ask, fitting, words_between
from tests.talks import (
    BAD, DUO, GOOD, NAMES, ONE, SLOW, drawn_council, drawn_councils, drawn_thoughts, drawn_word, named_councils,
    words_of,
)
from tests.test_days import NO_FRACTIONS
from tests.test_leaving import NO_NUMBERS_OF_DAYS

FIRST = ((0, 1), (6, 1), (12, 1))
LATER = ((3, 1), (6, 1), (9, 1))


def days_let(council):
    """The numbers of days that are let: not more than 1300 words have so many days."""
    return [many for many in range(13) if len(council.ways) ** many <= 1300]


def few_minds_differ(seed, number):
    """Councils with ways that differ in the row of one mind, or only by a divisor."""
    draw = random.Random(seed)
    for at in range(number):
        council = drawn_council(draw, at % 6 + 1, 1, draw.choice((0, 5, 8)), (1, 2, 3, 5))
        ways = [council.ways[0]]
        while len(ways) < draw.randrange(2, 7):
            way, own = list(draw.choice(ways)), draw.randrange(len(council))
            if draw.randrange(2) == 0:
                row = tuple([weight * draw.choice((1, 1, 2, 7)) for weight in way[own]])
            else:
                factor = draw.choice((2, 3, 10 ** 7))
                row = tuple([weight * factor for weight in way[own]])
            if max(row) <= MOST_WEIGHT:
                way[own] = row
            ways.append(tuple(way))
        yield Council(council.minds, tuple(ways))


def same_means(one, other):
    """Whether two ways give the same shares."""
    return [[Fraction(weight, sum(row)) for weight in row] for row in one] == [
        [Fraction(weight, sum(row)) for weight in row] for row in other]


class TestFitting(unittest.TestCase):
    def test_against_after_for_all_ways(self):
        draw, fits, none = random.Random(91), 0, 0
        for council in named_councils() + drawn_councils(91, 108) + list(few_minds_differ(92, 60)):
            thoughts = drawn_thoughts(draw, len(council))
            ways = range(len(council.ways))
            for later in [after(council, thoughts, (at,)) for at in ways] + [thoughts, drawn_thoughts(draw, len(council))]:
                told = fitting(council, thoughts, later)
                self.assertEqual(told, tuple([at for at in ways if after(council, thoughts, (at,)) == later]))
                fits, none = fits + (len(told) > 1), none + (told == ())
        self.assertGreater(min(fits, none), 30)

    def test_one_thought_that_is_another(self):
        for at in range(3):
            later = LATER[:at] + ((7, 2),) + LATER[at + 1:]
            self.assertEqual(fitting(GOOD, FIRST, later), ())
        self.assertEqual(fitting(GOOD, FIRST, LATER), (0,))

    def test_like_thoughts_fit_all_ways(self):
        for council in named_councils():
            thoughts = ((-(10 ** 30) + 1, 10 ** 29),) * len(council)
            self.assertEqual(fitting(council, thoughts, thoughts), tuple(range(len(council.ways))))

    def test_by_name_and_again(self):
        for _ in range(2):
            self.assertEqual(fitting(later=LATER, thoughts=FIRST, council=GOOD), (0,))
            self.assertEqual(words_between(many=1, later=LATER, thoughts=FIRST, council=GOOD), ((0,),))


class TestWordsBetween(unittest.TestCase):
    def test_against_after_for_all_words(self):
        draw, several = random.Random(93), 0
        for council in [GOOD, BAD, DUO, ONE] + drawn_councils(93, 36, 6, 3) + list(few_minds_differ(94, 24)):
            thoughts = drawn_thoughts(draw, len(council))
            for many in range(4):
                words = words_of(council, many)[:60]
                for later in (after(council, thoughts, draw.choice(words)), drawn_thoughts(draw, len(council))):
                    if len(council.ways) ** many <= 60:
                        told = words_between(council, thoughts, later, many)
                        self.assertEqual(told, tuple([word for word in words if after(council, thoughts, word) == later]))
                        several += len(told) > 1
        self.assertGreater(several, 30)

    def test_no_days(self):
        for council in named_councils():
            thoughts = ((1, 2),) * (len(council) - 1) + ((5, 1),)
            other = ((1, 2),) * (len(council) - 1) + ((-5, 1),)
            self.assertEqual(words_between(council, thoughts, thoughts, 0), ((),))
            self.assertEqual(words_between(council, thoughts, other, 0), ())

    def test_twelve_days_of_one_way(self):
        draw = random.Random(95)
        for council in [DUO] + drawn_councils(95, 36, 6, 1):
            thoughts = drawn_thoughts(draw, len(council))
            for many in range(13) if len(council.ways) == 1 else ():
                later = after(council, thoughts, (0,) * many)
                self.assertEqual(words_between(council, thoughts, later, many), ((0,) * many,))

    def test_all_words_as_long_as_they_may_be(self):
        for council in [GOOD, BAD, ONE, SLOW[4][0]] + drawn_councils(96, 36)[::5]:
            many = days_let(council)[-1]
            thoughts = ((1, 1),) * len(council)
            self.assertEqual(words_between(council, thoughts, thoughts, many), tuple(words_of(council, many)))

    def test_ascending_and_of_so_many_days(self):
        found = words_between(BAD, ((6, 1),) * 3, ((6, 1),) * 3, 6)
        self.assertEqual(list(found), sorted(itertools.product((0, 1, 2), repeat=6)))

    def test_too_many_words(self):
        counts = set()
        for count in range(1, 7):
            council = Council(NAMES[:2], (((1, 2), (3, 4)),) * count)
            thoughts = ((0, 1), (0, 1))
            for many in range(13):
                if count ** many <= 1300:
                    self.assertEqual(len(words_between(council, thoughts, thoughts, many)), count ** many)
                else:
                    counts.add(count ** many)
                    with self.assertRaises(TooMany) as caught:
                        words_between(council, thoughts, thoughts, many)
                    self.assertEqual(caught.exception.given, count ** many)
        # 6 ways, 4 days: 1296 words; 11 days of 2 ways: 2048.
        self.assertIn(2048, counts)
        self.assertNotIn(1296, counts)

    def test_errors_in_their_order(self):
        wrong = ((0, 1), (2, 4), (6, 1))
        cases = [
            ((None, (), (), -1), NotACouncil, None),
            ((BAD, wrong, (), 12), InvalidThoughts, 1),
            ((BAD, (), wrong, 12), InvalidThoughts, None),
            ((BAD, FIRST, wrong, 13), InvalidThoughts, 1),
            ((BAD, FIRST, FIRST[:2], 12), InvalidThoughts, None),
            ((BAD, FIRST, FIRST, 13), InvalidNumber, 13),
            ((BAD, FIRST, FIRST, 12), TooMany, 3 ** 12),
            ((BAD, FIRST, FIRST, 7), TooMany, 2187),
        ]
        for arguments, error, kept in cases:
            with self.assertRaises(error) as caught:
                words_between(*arguments)
            self.assertEqual(list(vars(caught.exception).values()), [kept])
        for value in NO_FRACTIONS:
            for at in range(3):
                later = LATER[:at] + (value,) + LATER[at + 1:]
                for call in (lambda: fitting(GOOD, FIRST, later), lambda: words_between(GOOD, FIRST, later, 99),
                             lambda: fitting(GOOD, later, later[:at]), lambda: words_between(GOOD, later, None, None)):
                    with self.assertRaises(InvalidThoughts) as caught:
                        call()
                    self.assertEqual(caught.exception.index, at)
        for value in NO_NUMBERS_OF_DAYS:
            with self.assertRaises(InvalidNumber) as caught:
                words_between(GOOD, FIRST, LATER, value)
            self.assertIs(caught.exception.given, value)


class TestAlike(unittest.TestCase):
    def test_ways_that_give_the_same_shares(self):
        several, one = 0, 0
        for council in named_councils() + list(few_minds_differ(97, 240)) + drawn_councils(97, 72):
            groups = alike(council)
            self.assertEqual([groups.__class__, groups[0].__class__], [tuple, tuple])
            self.assertEqual(sorted(itertools.chain(*groups)), list(range(len(council.ways))))
            self.assertEqual(list(groups), sorted(groups))
            for group in groups:
                self.assertEqual(list(group), sorted(group))
            places = {at: place for place, group in enumerate(groups) for at in group}
            for at, other in itertools.combinations(range(len(council.ways)), 2):
                self.assertIs(places[at] == places[other], same_means(council.ways[at], council.ways[other]))
            several, one = several + (len(groups) > 2), one + (len(groups) < len(council.ways))
        self.assertGreater(min(several, one), 50)

    def test_other_weights(self):
        self.assertEqual(alike(Council(("a", "b"), (((1, 1), (0, 2)), ((3, 3), (0, 1))))), ((0, 1),))
        self.assertEqual(alike(Council(("a", "b"), (((1, 2), (0, 2)), ((3, 3), (0, 1))))), ((0,), (1,)))
        great = ((MOST_WEIGHT, MOST_WEIGHT - 1), (MOST_WEIGHT, 0))
        near = ((MOST_WEIGHT - 1, MOST_WEIGHT - 2), (7, 0))
        self.assertEqual(alike(Council(("a", "b"), (great, near, great))), ((0, 2), (1,)))

    def test_groups_within_one_another(self):
        one, other = ((1, 1), (0, 1)), ((1, 0), (0, 1))
        council = Council(("a", "b"), (one, other, one, other, ((2, 2), (0, 9)), ((1, 2), (0, 1))))
        self.assertEqual(alike(council), ((0, 2, 4), (1, 3), (5,)))

    def test_one_mind_and_one_way(self):
        self.assertEqual(alike(ONE), ((0, 1),))
        self.assertEqual(alike(Council(("x",), (((7,),), ((1,),)) * 3)), ((0, 1, 2, 3, 4, 5),))
        self.assertEqual(alike(DUO), ((0,),))


class TestAsk(unittest.TestCase):
    def check(self, council):
        """That these are thoughts of the council that part any two ways of two groups."""
        thoughts = ask(council)
        groups = alike(council)
        later = [[after(council, thoughts, (at,)) for at in group] for group in groups]
        for found in later:
            self.assertEqual(found, found[:1] * len(found))
        self.assertEqual(len({found[0] for found in later}), len(groups))
        for group, found in zip(groups, later):
            self.assertEqual(fitting(council, thoughts, found[0]), group)

    def test_any_two_ways_of_two_groups_are_parted(self):
        for council in named_councils() + list(few_minds_differ(98, 240)) + drawn_councils(98, 144):
            with self.subTest(council=str(council)):
                self.check(council)

    def test_six_minds_six_ways_and_the_greatest_weights(self):
        draw = random.Random(99)
        minds = tuple([f"mind{at}xyz" for at in range(6)])
        for _ in range(30):
            way = [[MOST_WEIGHT - draw.randrange(3) for _ in range(6)] for _ in range(6)]
            ways = []
            for _ in range(6):
                way[draw.randrange(6)][draw.randrange(6)] = MOST_WEIGHT - draw.randrange(9)
                ways.append(tuple([tuple(row) for row in way]))
            self.check(Council(minds, tuple(ways)))

    def test_ways_that_part_few_thoughts(self):
        # By these ways one mind thinks the mean of two others, each time with thoughts that a power would not part.
        for place, base in itertools.product(range(6), range(1, 9)):
            rows = [tuple([int(at == other) for at in range(6)]) for other in range(6)]
            ways = []
            for at in range(4):
                row = [0] * 6
                row[at], row[at + 2], row[at + 1] = base, 1, 0
                ways.append(tuple(rows[:place] + [tuple(row)] + rows[place + 1:]))
                row = [0] * 6
                row[at + 1] = 1
                ways.append(tuple(rows[:place] + [tuple(row)] + rows[place + 1:]))
            for chosen in itertools.combinations(ways, 5):
                self.check(Council(NAMES, chosen))

    def test_thoughts_for_each_mind(self):
        self.assertEqual(len(ask(ONE)), 1)
        for council in drawn_councils(90, 36):
            thoughts = ask(council)
            self.assertEqual([thoughts.__class__, len(thoughts)], [tuple, len(council)])
            self.assertEqual(after(council, thoughts, ()), thoughts)

    def test_by_name_and_again(self):
        for _ in range(2):
            self.assertEqual(ask(council=BAD), ask(Council.read(str(BAD))))
            self.assertEqual(alike(council=BAD), ((0,), (1,), (2,)))


class TestBackFromThoughts(unittest.TestCase):
    def test_the_word_itself_is_found(self):
        draw = random.Random(89)
        for council in drawn_councils(89, 72):
            thoughts = drawn_thoughts(draw, len(council))
            many = min(3, days_let(council)[-1])
            word = drawn_word(draw, council, many)
            self.assertIn(word, words_between(council, thoughts, after(council, thoughts, word), many))
            self.assertIn(word[0], fitting(council, thoughts, after(council, thoughts, word[:1])))


class TestExamples(unittest.TestCase):
    def test_the_examples_of_the_document(self):
        self.assertEqual(
            [fitting(GOOD, FIRST, LATER), fitting(GOOD, FIRST, FIRST),
             words_between(GOOD, FIRST, ((15, 2), (6, 1), (6, 1)), 2), alike(BAD),
             alike(Council(("a", "b"), (((1, 1), (0, 2)), ((3, 3), (0, 1)))))],
            [(0,), (), ((0, 1), (1, 0)), ((0,), (1,), (2,)), ((0, 1),)])
        asked = ask(BAD)
        self.assertEqual(
            [after(BAD, asked, (0,)) == after(BAD, asked, (1,)), after(BAD, asked, (1,)) == after(BAD, asked, (2,))],
            [False, False])


if __name__ == "__main__":
    unittest.main()
