import itertools
import random
import unittest

from alwaysagree.councils import Council
from alwaysagree.days import after, sources, spread
from alwaysagree.errors import InvalidNumber, TooMany
from alwaysagree.leaving import farthest, left_after, worst_left, worst_word
from alwaysagree.limits import MOST_WEIGHT
from tests.kinds import other_kinds
from tests.talks import (
    BAD, DUO, GOOD, NAMES, ONE, SLOW, SWAP, all_share, drawn_councils, drawn_thoughts, drawn_word, named_councils, number,
    pair, shares_after, small_councils, sources_after, words_of,
)

NO_NUMBERS_OF_DAYS = other_kinds() + [-1, -2, 13, 14, 10 ** 79, -(10 ** 79), "", "1", (), (1,), ((),)]


def gaps(council, word):
    """For all pairs of minds, in order, 1 less the sum of the lesser ones of their shares."""
    rows = dict(zip(council.minds, shares_after(council, word)))
    return {
        names: 1 - sum([min(part, facing) for part, facing in zip(rows[names[0]], rows[names[1]])])
        for names in itertools.combinations(council.minds, 2)
    }


def left(council, word):
    return max(gaps(council, word).values(), default=0)


def talks(seed, lengths):
    """Pairs of a council and a word of it."""
    draw = random.Random(seed)
    for council in named_councils() + drawn_councils(seed, 72) + small_councils()[::7]:
        for days in lengths:
            yield council, drawn_word(draw, council, days)


def council_of(many, count):
    """A council of so many minds that has the same way so many times."""
    return Council(NAMES[:many], (tuple([tuple(range(1, many + 1))] * many),) * count)


class TestLeftAfter(unittest.TestCase):
    def test_the_greatest_of_all_pairs(self):
        for council, word in talks(21, (0, 1, 2, 3, 12)):
            with self.subTest(council=str(council), word=word):
                self.assertEqual(left_after(council, word), pair(left(council, word)))

    def test_one_mind(self):
        for word in ((), (0,), (1, 0), (0, 1) * 6):
            self.assertEqual(left_after(ONE, word), (0, 1))
            self.assertIsNone(farthest(ONE, word))

    def test_after_the_empty_word_all_is_left(self):
        for council in named_councils():
            if len(council) > 1:
                self.assertEqual(left_after(council, ()), (1, 1))
                self.assertEqual(farthest(council, ()), council.minds[:2])

    def test_below_1_exactly_if_each_two_minds_share_a_source(self):
        for council, word in talks(22, (1, 2, 3, 12)):
            top, bottom = left_after(council, word)
            self.assertEqual(top < bottom, all_share(sources_after(council, word)))
            lots = [set(sources(council, word, mind)) for mind in council.minds]
            self.assertEqual(top < bottom, all_share(lots))

    def test_so_much_of_the_first_spread_can_be_left_and_no_more(self):
        draw = random.Random(23)
        for council, word in talks(23, (1, 2, 12)):
            part = number(left_after(council, word))
            thoughts = drawn_thoughts(draw, len(council))
            self.assertLessEqual(number(spread(after(council, thoughts, word))), part * number(spread(thoughts)))
            if len(council) > 1:
                one, other = [shares_after(council, word)[council.minds.index(mind)] for mind in farthest(council, word)]
                thoughts = tuple([(int(mine > facing), 1) for mine, facing in zip(one, other)])
                self.assertEqual(number(spread(after(council, thoughts, word))), part)

    def test_nothing_is_left_if_all_hear_the_same(self):
        for council in (council_of(2, 1), council_of(6, 3)):
            self.assertEqual(left_after(council, (0,)), (0, 1))
            self.assertEqual(farthest(council, (0,)), council.minds[:2])

    def test_great_weights(self):
        council = Council(("a", "b"), (((MOST_WEIGHT, 1), (1, MOST_WEIGHT)),))
        self.assertEqual(left_after(council, (0,)), (10 ** 9 - 1, 10 ** 9 + 1))
        self.assertEqual(left_after(council, (0,) * 12), ((10 ** 9 - 1) ** 12, (10 ** 9 + 1) ** 12))

    def test_by_name(self):
        self.assertEqual(left_after(word=(0,), council=DUO), (1, 4))
        self.assertEqual(farthest(word=(0,), council=DUO), ("ann", "bob"))


class TestFarthest(unittest.TestCase):
    def test_the_first_pair_for_which_just_so_much_is_left(self):
        several = 0
        for council, word in talks(24, (0, 1, 2, 12)):
            if len(council) > 1:
                found = gaps(council, word)
                most = max(found.values())
                best = [names for names in found if found[names] == most]
                several += len(best) > 1
                with self.subTest(council=str(council), word=word):
                    self.assertEqual(farthest(council, word), best[0])
        self.assertGreater(several, 50)

    def test_pairs_go_by_the_order_of_the_minds(self):
        # Each of the first two hears the last two; those of the last two hear themselves alone.
        way = ((0, 0, 1, 1), (0, 0, 1, 1), (0, 0, 1, 0), (0, 0, 0, 1))
        self.assertEqual(farthest(Council(("zoe", "d", "c", "a"), (way,)), (0,)), ("c", "a"))
        # Two pairs are as far: the second and third, and the first and last.
        way = ((1, 0, 1, 0), (1, 0, 1, 0), (0, 1, 0, 1), (0, 1, 0, 1))
        self.assertEqual(farthest(Council(("d", "c", "b", "a"), (way,)), (0,)), ("d", "b"))


class TestWorst(unittest.TestCase):
    def check(self, council, many):
        words = words_of(council, many)
        found = [left(council, word) for word in words]
        with self.subTest(council=str(council), many=many):
            self.assertEqual(worst_left(council, many), pair(max(found)))
            self.assertEqual(worst_word(council, many), words[found.index(max(found))])

    def test_against_all_words(self):
        for council in named_councils() + small_councils()[::7]:
            for many in range(5):
                if len(council.ways) ** many <= 100:
                    self.check(council, many)

    def test_against_all_words_of_drawn_councils(self):
        for council in drawn_councils(25, 72):
            for many in range(4):
                if len(council.ways) ** many <= 40:
                    self.check(council, many)

    def test_no_days(self):
        for council in named_councils():
            self.assertEqual(worst_word(council, 0), ())
            self.assertEqual(worst_left(council, 0), (int(len(council) > 1), 1))

    def test_twelve_days(self):
        for council in (DUO, SWAP, council_of(1, 1), council_of(6, 1)):
            self.check(council, 12)
            self.assertEqual(worst_word(council, 12), (0,) * 12)
        self.assertEqual(worst_left(SWAP, 12), (1, 1))
        self.assertEqual(worst_left(DUO, 12), (1, 4 ** 12))

    def test_one_mind(self):
        for many in range(11):
            self.assertEqual(worst_left(ONE, many), (0, 1))
            self.assertEqual(worst_word(ONE, many), (0,) * many)

    def test_the_first_word_of_several(self):
        self.assertEqual(worst_word(council_of(3, 3), 3), (0, 0, 0))
        # By the way 1 all is left, by the others nothing; by both 1 and 2 nothing, so 1 must come every day.
        ways = (((1, 1), (1, 1)), ((1, 0), (0, 1)), ((1, 1), (1, 1)), ((0, 1), (1, 0)))
        council = Council(("a", "b"), ways)
        self.assertEqual([worst_word(council, many) for many in range(4)], [(), (1,), (1, 1), (1, 1, 1)])
        self.assertEqual(worst_word(Council(("a", "b"), ways[2:]), 3), (1, 1, 1))

    def test_up_to_1300_words(self):
        for count, many in ((6, 4), (5, 4), (4, 5), (3, 6), (2, 10), (1, 12)):
            council = council_of(2, count)
            self.assertEqual(worst_left(council, many), (0, 1))
            self.assertEqual(worst_word(council, many), (0,) * many)
        self.assertEqual(worst_word(SLOW[1][0], 10).__class__, tuple)

    def test_too_many_words(self):
        for count, many in ((6, 5), (5, 5), (4, 6), (3, 7), (2, 11), (2, 12), (3, 12), (6, 12)):
            for minds in (1, 2, 6):
                for ask in (worst_left, worst_word):
                    with self.assertRaises(TooMany) as caught:
                        ask(council_of(minds, count), many)
                    self.assertIs(caught.exception.given.__class__, int)
                    self.assertEqual(caught.exception.given, count ** many)

    def test_no_number_of_days(self):
        for council in (GOOD, BAD, ONE, council_of(6, 6)):
            for many in NO_NUMBERS_OF_DAYS:
                for ask in (worst_left, worst_word):
                    with self.subTest(kind=many.__class__.__name__):
                        with self.assertRaises(InvalidNumber) as caught:
                            ask(council, many)
                        self.assertIs(caught.exception.given, many)

    def test_by_name(self):
        self.assertEqual(worst_left(many=2, council=GOOD), (3, 4))
        self.assertEqual(worst_word(many=2, council=GOOD), (1, 1))


class TestExamples(unittest.TestCase):
    def test_the_examples_of_the_document(self):
        self.assertEqual(
            [left_after(GOOD, (0,)), left_after(GOOD, (1,)), farthest(GOOD, (1,)), worst_left(GOOD, 1), worst_left(GOOD, 2),
             worst_word(GOOD, 2), left_after(GOOD, ())],
            [(1, 2), (1, 1), ("bob", "cyd"), (1, 1), (3, 4), (1, 1), (1, 1)])


if __name__ == "__main__":
    unittest.main()
