import itertools
import random
import unittest
from fractions import Fraction
from math import gcd

from alwaysagree.councils import Council
from alwaysagree.days import after, mean, shares, sources, spread
from alwaysagree.errors import InvalidNumber, InvalidThoughts
from alwaysagree.limits import MOST_WEIGHT
from tests.kinds import all_kinds, other_kinds
from tests.talks import (
    BAD, DUO, GOOD, NAMES, ONE, drawn_councils, drawn_thoughts, drawn_word, mean_by, named_councils, number,
    numbers_after, pair, shares_after, sources_after,
)

FIRST = ((0, 1), (6, 1), (12, 1))
# What is no fraction, whatever stands around it.
NO_FRACTIONS = other_kinds() + [
    0, 1, "", "1/2", (), (1,), (1, 2, 3), [1, 2], (2, 4), (0, 2), (-3, 3), (1, 0), (0, 0), (1, -1), (-1, -2), (0, -1),
    (True, 2), (1, True), (False, 1), ("1", 2), (1, "2"), (None, 1), (1, None), ((1, 2), 3), (b"1", 1), (1, [2]),
    (10 ** 30, 10 ** 29), (Fraction(1), 2), Fraction(1, 2),
]


def talks(seed, lengths):
    """Triples of a council, thoughts of its minds and a word of it."""
    draw = random.Random(seed)
    for council in named_councils() + drawn_councils(seed, 72):
        for days in lengths:
            yield council, drawn_thoughts(draw, len(council)), drawn_word(draw, council, days)


class TestFractions(unittest.TestCase):
    def check(self, value):
        """That this is a fraction."""
        self.assertIs(value.__class__, tuple)
        self.assertEqual([part.__class__ for part in value], [int, int])
        self.assertGreaterEqual(value[1], 1)
        self.assertEqual(gcd(value[0], value[1]), 1)

    def test_all_results_are_fractions(self):
        for council, thoughts, word in talks(1, (0, 1, 12)):
            later, parts = after(council, thoughts, word), shares(council, word)
            self.assertEqual([later.__class__, parts.__class__], [tuple, tuple])
            self.assertEqual([len(later), len(parts)], [len(council)] * 2)
            for part in parts:
                self.assertIs(part.__class__, tuple)
                self.assertEqual(len(part), len(council))
            row = council.ways[0][-1]
            for value in (spread(thoughts), spread(later), mean(council, thoughts, row), *later, *itertools.chain(*parts)):
                self.check(value)


class TestAfter(unittest.TestCase):
    def test_as_the_days_go_by(self):
        for council, thoughts, word in talks(2, (0, 1, 2, 3, 12)):
            with self.subTest(council=str(council), word=word):
                expected = numbers_after(council, [number(thought) for thought in thoughts], word)
                self.assertEqual(after(council, thoughts, word), tuple([pair(value) for value in expected]))

    def test_the_empty_word_leaves_the_thoughts(self):
        for council, thoughts, word in talks(3, (0,)):
            self.assertEqual(word, ())
            self.assertEqual(after(council, thoughts, ()), thoughts)

    def test_the_first_day_comes_first(self):
        self.assertEqual(after(GOOD, FIRST, (0, 1)), after(GOOD, after(GOOD, FIRST, (0,)), (1,)))
        council = Council(("a", "b"), (((1, 0), (1, 0)), ((0, 1), (0, 1))))
        self.assertEqual(after(council, ((3, 1), (5, 1)), (0, 1)), ((3, 1), (3, 1)))
        self.assertEqual(after(council, ((3, 1), (5, 1)), (1, 0)), ((5, 1), (5, 1)))

    def test_a_word_in_two_parts(self):
        for council, thoughts, word in talks(4, (2, 5, 12)):
            at = len(word) // 2
            self.assertEqual(after(council, thoughts, word), after(council, after(council, thoughts, word[:at]), word[at:]))

    def test_what_was_returned_may_be_passed_on(self):
        council = drawn_councils(5, 36)[-1]
        thoughts = drawn_thoughts(random.Random(5), len(council))
        word = drawn_word(random.Random(5), council, 12)
        numbers = [number(thought) for thought in thoughts]
        for _ in range(4):
            thoughts, numbers = after(council, thoughts, word), numbers_after(council, numbers, word)
        self.assertEqual(thoughts, tuple([pair(value) for value in numbers]))
        self.assertEqual(spread(thoughts), pair(max(numbers) - min(numbers)))

    def test_great_weights(self):
        council = Council(("a", "b"), (((MOST_WEIGHT, 1), (MOST_WEIGHT, MOST_WEIGHT - 1)),))
        self.assertEqual(after(council, ((1, 1), (0, 1)), (0,)), ((10 ** 9, 10 ** 9 + 1), (10 ** 9, 2 * 10 ** 9 - 1)))
        self.assertEqual(shares(council, (0,))[0], ((10 ** 9, 10 ** 9 + 1), (1, 10 ** 9 + 1)))

    def test_one_mind_keeps_its_thought(self):
        for word in ((), (0,), (0, 1) * 6):
            self.assertEqual(after(ONE, ((-10 ** 30 + 1, 10 ** 30),), word), ((-10 ** 30 + 1, 10 ** 30),))

    def test_by_name_and_again(self):
        expected = ((3, 1), (6, 1), (9, 1))
        text = str(GOOD)
        for _ in range(2):
            self.assertEqual(after(GOOD, FIRST, (0,)), expected)
            self.assertEqual(after(word=(0,), thoughts=FIRST, council=GOOD), expected)
        self.assertEqual([str(GOOD), FIRST], [text, ((0, 1), (6, 1), (12, 1))])


class TestShares(unittest.TestCase):
    def test_against_first_thoughts_of_one_mind_alone(self):
        for council, _, word in talks(6, (0, 1, 2, 12)):
            with self.subTest(council=str(council), word=word):
                expected = tuple([tuple([pair(part) for part in row]) for row in shares_after(council, word)])
                self.assertEqual(shares(council, word), expected)

    def test_they_add_up_to_1(self):
        for council, _, word in talks(7, (0, 1, 12)):
            for row in shares(council, word):
                self.assertEqual(sum([number(part) for part in row]), 1)
                self.assertGreaterEqual(min([part[0] for part in row]), 0)

    def test_the_thoughts_after_a_word_are_the_means_by_the_shares(self):
        for council, thoughts, word in talks(8, (0, 1, 12)):
            numbers = [number(thought) for thought in thoughts]
            for row, thought in zip(shares(council, word), after(council, thoughts, word)):
                self.assertEqual(number(thought), mean_by([number(part) for part in row], numbers))

    def test_after_the_empty_word_each_mind_has_its_own(self):
        for many in range(1, 7):
            council = Council(NAMES[:many], (tuple([(1,) * many] * many),))
            expected = tuple([tuple([(int(one == other), 1) for one in range(many)]) for other in range(many)])
            self.assertEqual(shares(council, ()), expected)
            self.assertEqual(shares(council, (0,)), (((1, many),) * many,) * many)

    def test_by_name(self):
        self.assertEqual(shares(word=(0,), council=DUO), (((1, 2), (1, 2)), ((1, 4), (3, 4))))


class TestSources(unittest.TestCase):
    def test_the_minds_with_a_share_above_0(self):
        for council, _, word in talks(9, (0, 1, 2, 3, 12)):
            found, parts = sources_after(council, word), shares(council, word)
            for at, mind in enumerate(council.minds):
                with self.subTest(council=str(council), word=word, mind=mind):
                    told = sources(council, word, mind)
                    self.assertEqual(told, tuple([council.minds[one] for one in sorted(found[at])]))
                    self.assertEqual(told, tuple([one for one, part in zip(council.minds, parts[at]) if part[0] > 0]))

    def test_after_the_empty_word_each_mind_is_its_only_source(self):
        for council in named_councils():
            for mind in council.minds:
                self.assertEqual(sources(council, (), mind), (mind,))

    def test_after_one_day_they_are_those_that_are_heard(self):
        for council in named_councils():
            for way, mind in itertools.product(range(len(council.ways)), council.minds):
                self.assertEqual(sources(council, (way,), mind), council.hears(way, mind))

    def test_in_the_order_of_the_council(self):
        council = Council(("cyd", "ann", "bob"), (((1, 1, 1), (0, 1, 1), (1, 0, 1)),))
        self.assertEqual(sources(council, (0,), "cyd"), ("cyd", "ann", "bob"))
        self.assertEqual(sources(mind="bob", word=(0,), council=council), ("cyd", "bob"))

    def test_a_small_share_makes_a_source(self):
        council = Council(("a", "b"), (((1, MOST_WEIGHT), (0, 1)),))
        self.assertEqual(sources(council, (0,) * 12, "a"), ("a", "b"))
        self.assertEqual(shares(council, (0,) * 12)[0][0], (1, (10 ** 9 + 1) ** 12))


class TestSpread(unittest.TestCase):
    def test_the_greatest_less_the_least(self):
        self.assertEqual(spread(FIRST), (12, 1))
        self.assertEqual(spread(((1, 2), (1, 3))), (1, 6))
        self.assertEqual(spread(((1, 3), (1, 2))), (1, 6))
        self.assertEqual(spread(((-1, 2), (-3, 2), (-1, 1))), (1, 1))
        self.assertEqual(spread(((1, 6), (-1, 6))), (1, 3))
        self.assertEqual(spread(((10 ** 30, 7), (-(10 ** 30), 7))), (2 * 10 ** 30, 7))
        self.assertEqual(spread(thoughts=((5, 4), (5, 4))), (0, 1))

    def test_for_any_number_of_thoughts(self):
        draw = random.Random(10)
        for many in range(1, 30):
            thoughts = drawn_thoughts(draw, many)
            numbers = [number(thought) for thought in thoughts]
            self.assertEqual(spread(thoughts), pair(max(numbers) - min(numbers)))
        self.assertEqual(spread(((-7, 3),)), (0, 1))

    def refused(self, thoughts, index):
        for call in (lambda: spread(thoughts), lambda: spread(thoughts=thoughts)):
            with self.assertRaises(InvalidThoughts) as caught:
                call()
            self.assertIs(caught.exception.index.__class__, index.__class__)
            self.assertEqual(caught.exception.index, index)

    def test_no_tuple_and_no_thoughts(self):
        for value in other_kinds() + [0, "", "ab", (), list(FIRST), [(1, 2)], iter(FIRST)]:
            with self.subTest(kind=value.__class__.__name__):
                self.refused(value, None)

    def test_the_first_element_that_is_no_fraction(self):
        for value in NO_FRACTIONS:
            with self.subTest(kind=value.__class__.__name__):
                self.refused((value,), 0)
                self.refused((value, None), 0)
                self.refused(((1, 2), value), 1)
                self.refused(((0, 1),) * 9 + (value, (2, 4)), 9)
        # A pair of integers is two elements that are none.
        self.refused((1, 2), 0)


class TestMean(unittest.TestCase):
    def test_with_the_weights_of_a_row(self):
        self.assertEqual(mean(GOOD, FIRST, (1, 1, 2)), (15, 2))
        self.assertEqual(mean(GOOD, FIRST, (0, 0, 5)), (12, 1))
        self.assertEqual(mean(GOOD, FIRST, (2, 2, 2)), (6, 1))
        self.assertEqual(mean(GOOD, ((-1, 2), (1, 3), (0, 1)), (1, 1, 0)), (-1, 12))
        self.assertEqual(mean(weights=(0, 1, 0), thoughts=FIRST, council=BAD), (6, 1))
        self.assertEqual(mean(ONE, ((2, 3),), (MOST_WEIGHT,)), (2, 3))
        self.assertEqual(mean(DUO, ((1, 1), (0, 1)), (MOST_WEIGHT, 1)), (10 ** 9, 10 ** 9 + 1))

    def test_it_need_be_no_row_of_a_way(self):
        draw = random.Random(11)
        for council in drawn_councils(11, 72):
            thoughts = drawn_thoughts(draw, len(council))
            weights = tuple([draw.choice((0, 1, 3, MOST_WEIGHT)) for _ in range(len(council) - 1)]) + (draw.choice((1, 8)),)
            expected = mean_by(weights, [number(thought) for thought in thoughts])
            self.assertEqual(mean(council, thoughts, weights), pair(expected))

    def test_weights_that_are_no_row(self):
        wrong = other_kinds() + [0, 1, "", "111", (), (1,), (1, 1), (1, 1, 1, 1), (1, 1, 1, 0), [1, 1, 1], (0, 0, 0),
                                 (1, 1, -1), (-1, 1, 1), (1, MOST_WEIGHT + 1, 1), (1, 1, True), (False, 1, 1), (1, None, 1),
                                 (1, 1, "1"), (1, (1,), 1), ((1, 1, 1),), ((1, 1, 1),) * 3, (1, 1, Fraction(1))]
        for weights in wrong:
            with self.subTest(kind=weights.__class__.__name__):
                for call in (lambda: mean(GOOD, FIRST, weights), lambda: mean(GOOD, weights=weights, thoughts=FIRST)):
                    with self.assertRaises(InvalidNumber) as caught:
                        call()
                    self.assertIs(caught.exception.given, weights)
        for value in all_kinds():
            if value.__class__ is not int or value not in (0, 1):
                for at in range(3):
                    weights = (1, 1, 1)[:at] + (value,) + (1, 1, 1)[at + 1:]
                    with self.assertRaises(InvalidNumber):
                        mean(GOOD, FIRST, weights)


class TestExamples(unittest.TestCase):
    def test_the_examples_of_the_document(self):
        self.assertEqual(
            [after(GOOD, FIRST, (0,)), after(GOOD, FIRST, (0, 1)), spread(after(GOOD, FIRST, (0, 1))),
             sources(GOOD, (0, 1), "cyd"), mean(GOOD, FIRST, (1, 1, 2))],
            [((3, 1), (6, 1), (9, 1)), ((15, 2), (6, 1), (6, 1)), (3, 2), ("ann", "bob", "cyd"), (15, 2)])
        self.assertEqual(
            shares(GOOD, (0, 1)),
            (((0, 1), (3, 4), (1, 4)), ((0, 1), (1, 1), (0, 1)), ((1, 4), (1, 2), (1, 4))))


if __name__ == "__main__":
    unittest.main()
