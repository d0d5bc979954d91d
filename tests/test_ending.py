import itertools
import random
import unittest
from fractions import Fraction

from alwaysagree.agreeing import always_agrees
from alwaysagree.councils import Council
from alwaysagree.days import shares
from alwaysagree.ending import end_shares, end_thought, leaders, settles
from alwaysagree.errors import InvalidThoughts, InvalidWord, NoDays, NoEnd
from alwaysagree.limits import MOST_WEIGHT
from tests.kinds import all_kinds
from tests.talks import (
    BAD, DUO, GOOD, NAMES, ONE, RINGS, SLOW, SWAP, all_share, all_ways, drawn_councils, drawn_thoughts, drawn_word,
    mean_by, named_councils, number, pair, shares_after, small_councils, sources_after,
)

# After so many tellings of a word that settles each two minds share a source: there are no more pairs of lots.
MANY = 301


def settled(council, word):
    """Whether each two minds share a source after some number of tellings of the word."""
    once = sources_after(council, word)
    found = once
    for _ in range(MANY):
        found = tuple([frozenset().union(*[found[at] for at in lot]) for lot in once])
    return all_share(found)


def talks(seed):
    """Pairs of a council and a word of it, of one day or more."""
    draw = random.Random(seed)
    for council in named_councils() + small_councils() + drawn_councils(seed, 72):
        for days in (1, 2, 3, 12):
            yield council, drawn_word(draw, council, days)


def settling(seed):
    return [(council, word) for council, word in talks(seed) if settles(council, word)]


class TestSettles(unittest.TestCase):
    def test_exactly_if_each_two_minds_come_to_share_a_source(self):
        seen = {True: 0, False: 0}
        for council, word in talks(51):
            with self.subTest(council=str(council), word=word):
                told = settles(council, word)
                self.assertIs(told, settled(council, word))
                seen[told] += 1
        self.assertGreater(min(seen.values()), 100)

    def test_all_ways_of_three_minds(self):
        for way in all_ways(3):
            council = Council(("a", "b", "c"), (way,))
            self.assertIs(settles(council, (0,)), always_agrees(council))

    def test_all_words_of_a_council_that_always_agrees(self):
        for council, _ in SLOW:
            for days in (1, 2, 3):
                for word in itertools.product(range(len(council.ways)), repeat=days):
                    self.assertIs(settles(council, word), True)

    def test_one_way_that_does_not_settle_in_a_word_that_does(self):
        self.assertIs(settles(BAD, (2,)), False)
        self.assertIs(settles(BAD, (2, 1)), True)
        self.assertIs(settles(BAD, (2,) * 12), False)
        self.assertIs(settles(BAD, (2,) * 11 + (0,)), True)

    def test_minds_that_change_places(self):
        self.assertIs(settles(SWAP, (0,)), False)
        self.assertIs(settles(SWAP, (0, 0)), False)
        self.assertIs(settles(RINGS, (0,)), False)
        self.assertIs(settles(RINGS, (1,)), False)

    def test_one_mind(self):
        for word in ((0,), (1, 0), (0, 1) * 6):
            self.assertIs(settles(ONE, word), True)
            self.assertEqual(end_shares(ONE, word), ((1, 1),))
            self.assertEqual(end_thought(ONE, ((-2, 3),), word), (-2, 3))
            self.assertEqual(leaders(ONE, word), ("x",))

    def test_by_name(self):
        self.assertIs(settles(word=(1,), council=GOOD), True)


class TestEndShares(unittest.TestCase):
    def test_they_add_up_to_1_and_the_word_leaves_them(self):
        for council, word in settling(52):
            with self.subTest(council=str(council), word=word):
                found = end_shares(council, word)
                self.assertEqual([found.__class__, len(found)], [tuple, len(council)])
                parts = [number(part) for part in found]
                self.assertEqual(found, tuple([pair(part) for part in parts]))
                self.assertEqual([value.__class__ for part in found for value in part], [int] * 2 * len(council))
                self.assertEqual(sum(parts), 1)
                self.assertGreaterEqual(min(parts), 0)
                rows = shares_after(council, word)
                for at in range(len(council)):
                    self.assertEqual(mean_by(parts, [row[at] for row in rows]), parts[at])

    def test_the_shares_come_near_to_them(self):
        draw = random.Random(53)
        for council in [GOOD, BAD, DUO, ONE] + drawn_councils(53, 36, 4, 3, (1, 2, 3)):
            word = drawn_word(draw, council, 2)
            if settles(council, word):
                rows = [[float(number(part)) for part in row] for row in shares(council, word)]
                # Each telling more doubles how often the word is told.
                for _ in range(12):
                    columns = list(zip(*rows))
                    rows = [[sum([one * two for one, two in zip(row, column)]) for column in columns] for row in rows]
                for row in rows:
                    for part, end in zip(row, end_shares(council, word)):
                        self.assertAlmostEqual(part, float(number(end)), 6)

    def test_they_hang_on_the_order_of_the_days(self):
        council = Council(("a", "b"), (((1, 0), (1, 0)), ((0, 1), (0, 1))))
        self.assertEqual(end_shares(council, (0, 1)), ((1, 1), (0, 1)))
        self.assertEqual(end_shares(council, (1, 0)), ((0, 1), (1, 1)))

    def test_a_ring_with_great_weights(self):
        # Each mind hears itself with this weight and the next one with 1: the longer it keeps its own, the more it counts.
        way = ((MOST_WEIGHT, 1, 0), (0, 1, 1), (1, 0, 3))
        council = Council(("a", "b", "c"), (way,))
        total = MOST_WEIGHT + 1 + 2 + 4
        expected = tuple([pair(Fraction(part, total)) for part in (MOST_WEIGHT + 1, 2, 4)])
        self.assertEqual(end_shares(council, (0,)), expected)
        self.assertEqual(end_shares(council, (0,) * 12), expected)
        self.assertEqual(leaders(council, (0,)), ("a", "b", "c"))

    def test_even_ways(self):
        for many in range(1, 7):
            council = Council(NAMES[:many], (((1,) * many,) * many,))
            self.assertEqual(end_shares(council, (0,)), ((1, many),) * many)

    def test_by_name_and_again(self):
        for _ in range(2):
            self.assertEqual(end_shares(word=(0,), council=DUO), ((1, 3), (2, 3)))


class TestEndThought(unittest.TestCase):
    def test_the_mean_with_the_end_shares(self):
        draw = random.Random(54)
        for council, word in settling(54):
            thoughts = drawn_thoughts(draw, len(council))
            parts = [number(part) for part in end_shares(council, word)]
            expected = pair(mean_by(parts, [number(thought) for thought in thoughts]))
            self.assertEqual(end_thought(council, thoughts, word), expected)

    def test_the_thoughts_come_near_to_it(self):
        draw = random.Random(55)
        for council in [GOOD, DUO, ONE] + drawn_councils(55, 36, 4, 3, (1, 2, 3)):
            word = drawn_word(draw, council, 2)
            if settles(council, word):
                thoughts = tuple([(draw.randrange(-9, 10), 1) for _ in council.minds])
                numbers = [float(number(thought)) for thought in thoughts]
                rows = [[float(part) for part in row] for row in shares_after(council, word)]
                for _ in range(600):
                    numbers = [sum([part * value for part, value in zip(row, numbers)]) for row in rows]
                for value in numbers:
                    self.assertAlmostEqual(value, float(number(end_thought(council, thoughts, word))), 6)

    def test_a_day_more_by_the_word_changes_nothing(self):
        thoughts = ((0, 1), (9, 1))
        self.assertEqual(end_thought(DUO, thoughts, (0,)), (6, 1))
        self.assertEqual(end_thought(DUO, ((9, 2), (27, 4)), (0,)), (6, 1))
        self.assertEqual(end_thought(word=(0,) * 12, thoughts=thoughts, council=DUO), (6, 1))

    def test_like_thoughts_stay(self):
        for council, word in settling(56):
            thought = (-(10 ** 30) + 1, 10 ** 29)
            self.assertEqual(end_thought(council, (thought,) * len(council), word), thought)


class TestLeaders(unittest.TestCase):
    def test_the_minds_with_an_end_share_above_0(self):
        fewer = 0
        for council, word in settling(57):
            with self.subTest(council=str(council), word=word):
                parts = end_shares(council, word)
                expected = tuple([mind for mind, part in zip(council.minds, parts) if part[0] > 0])
                self.assertEqual(leaders(council, word), expected)
                fewer += len(expected) < len(council)
        self.assertGreater(fewer, 100)

    def test_they_are_sources_of_all_in_the_end_and_have_no_others(self):
        for council, word in settling(58):
            once = sources_after(council, word)
            lot = {council.minds.index(mind) for mind in leaders(council, word)}
            self.assertEqual(frozenset().union(*[once[at] for at in lot]), lot)

    def test_in_the_order_of_the_council(self):
        council = Council(("cyd", "ann", "bob"), (((1, 0, 1), (1, 0, 0), (1, 0, 1)),))
        self.assertEqual(leaders(word=(0,), council=council), ("cyd", "bob"))
        self.assertEqual(end_shares(council, (0,)), ((1, 2), (0, 1), (1, 2)))


class TestNoEnd(unittest.TestCase):
    def refused(self, error, ask, *arguments):
        with self.assertRaises(error) as caught:
            ask(*arguments)
        self.assertIs(caught.exception.__class__, error)
        return caught.exception

    def test_words_that_do_not_settle(self):
        count = 0
        for council, word in talks(59):
            if not settles(council, word):
                count += 1
                thoughts = ((0, 1),) * len(council)
                self.refused(NoEnd, end_shares, council, word)
                self.refused(NoEnd, end_thought, council, thoughts, word)
                self.refused(NoEnd, leaders, council, word)
        self.assertGreater(count, 100)

    def test_also_where_shares_that_stay_are_but_one_row(self):
        # The minds change places for ever, though halves of each would stay.
        for council in (SWAP, RINGS):
            word = (len(council.ways) - 1,)
            self.refused(NoEnd, end_shares, council, word)
            self.refused(NoEnd, leaders, council, word)

    def test_also_if_all_think_the_same(self):
        self.refused(NoEnd, end_thought, SWAP, ((1, 1), (1, 1)), (0,))

    def test_last_behind_wrong_thoughts_and_no_days(self):
        for thoughts in all_kinds():
            self.assertIsNone(self.refused(InvalidThoughts, end_thought, SWAP, (thoughts,), (0,)).index)
            if not isinstance(thoughts, tuple):
                self.assertIsNone(self.refused(InvalidThoughts, end_thought, SWAP, thoughts, (0,)).index)
        self.assertEqual(self.refused(InvalidThoughts, end_thought, SWAP, ((1, 1), (2, 2)), (0,)).index, 1)
        self.assertEqual(self.refused(InvalidThoughts, end_thought, SWAP, ((1, 1), (2, 2)), ()).index, 1)
        self.assertEqual(self.refused(InvalidWord, end_thought, SWAP, ((1, 1), (2, 1)), (0, 1)).index, 1)
        self.refused(NoDays, end_thought, SWAP, ((1, 1), (2, 1)), ())

    def test_no_days(self):
        for council in named_councils():
            for ask in (settles, end_shares, leaders):
                self.refused(NoDays, ask, council, ())
            self.refused(NoDays, end_thought, council, ((0, 1),) * len(council), ())


class TestExamples(unittest.TestCase):
    def test_the_examples_of_the_document(self):
        self.assertEqual(
            [settles(GOOD, (1,)), settles(BAD, (2,)), settles(BAD, (2, 1)), end_shares(DUO, (0,)),
             end_thought(DUO, ((0, 1), (9, 1)), (0,)), leaders(GOOD, (0, 1)), end_shares(BAD, (0, 2))],
            [True, False, True, ((1, 3), (2, 3)), (6, 1), ("bob",), ((0, 1), (1, 1), (0, 1))])


if __name__ == "__main__":
    unittest.main()
