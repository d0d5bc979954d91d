import itertools
import random
import sys
import unittest

from alwaysagree.agreeing import always_agrees, apart_pairs, days_needed, is_kept, kept_apart
from alwaysagree.councils import Council
from alwaysagree.days import after
from alwaysagree.errors import InvalidName, InvalidWord, NoDays, UnknownName
from alwaysagree.limits import MOST_WEIGHT
from tests.kinds import EqualsAll, EqualsNone, all_kinds, other_kinds
from tests.talks import (
    BAD, DUO, GOOD, LONG, NAMES, ONE, RINGS, SLOW, SWAP, all_share, days_after_which_all_share, days_till_no_pair_is_left,
    drawn_councils, drawn_word, kept, named_councils, reached, small_councils, sources_after, words_of,
)


def councils():
    """Councils that always agree, and such that do not; all words of them can be gone through."""
    drawn = drawn_councils(31, 300, 4, 3) + drawn_councils(32, 120, 6, 2) + drawn_councils(39, 120, 6, 2)
    return named_councils() + small_councils() + drawn


def great_councils():
    """Councils with up to six minds and six ways."""
    return drawn_councils(40, 144) + drawn_councils(41, 144, 6, 6, (1,))


def lots_of(council):
    """All lots of minds, each one as an ascending tuple of indexes."""
    indexes = range(len(council))
    return [lot for many in range(1, len(council) + 1) for lot in itertools.combinations(indexes, many)]


def named(council, lot):
    return tuple([council.minds[at] for at in lot])


class TestAlwaysAgrees(unittest.TestCase):
    def test_against_all_words(self):
        told = []
        for council in councils():
            with self.subTest(council=str(council)):
                days = days_after_which_all_share(council)
                self.assertEqual(days_needed(council), days)
                self.assertIs(always_agrees(council), days is not None)
                told.append(days)
        self.assertGreater(told.count(None), 100)
        self.assertGreater(len(told) - told.count(None), 100)

    def test_against_all_pairs(self):
        told = []
        for council in great_councils() + named_councils():
            with self.subTest(council=str(council)):
                days = days_till_no_pair_is_left(council)
                self.assertEqual(days_needed(council), days)
                self.assertIs(always_agrees(council), days is not None)
                told.append(days)
        self.assertGreater(told.count(None), 50)
        self.assertGreater(len(told) - told.count(None), 50)

    def test_one_mind_needs_no_days(self):
        for ways in ((((1,),),), (((3,),),) * 6):
            council = Council(("x",), ways)
            self.assertIs(always_agrees(council), True)
            self.assertEqual(days_needed(council), 0)
            self.assertIsNone(kept_apart(council))
            self.assertEqual(apart_pairs(council), 0)

    def test_two_minds_or_more_need_a_day(self):
        for many in range(2, 7):
            council = Council(NAMES[:many], (((1,) * many,) * many,) * 2)
            self.assertIs(always_agrees(council), True)
            self.assertEqual(days_needed(council), 1)
            self.assertEqual(apart_pairs(council), many * (many - 1) // 2)

    def test_councils_that_do_not_and_one_that_does(self):
        self.assertEqual(days_needed(GOOD), 2)
        self.assertIsNone(days_needed(BAD))
        self.assertIsNone(days_needed(SWAP))
        self.assertIsNone(days_needed(RINGS))
        self.assertIs(always_agrees(SWAP), False)

    def test_the_size_of_weights_changes_nothing(self):
        for council in small_councils() + drawn_councils(33, 36):
            ways = tuple([tuple([tuple([MOST_WEIGHT if weight else 0 for weight in row]) for row in way])
                          for way in council.ways])
            great = Council(council.minds, ways)
            self.assertEqual(days_needed(great), days_needed(council))
            self.assertEqual(apart_pairs(great), apart_pairs(council))
            self.assertEqual(kept_apart(great), kept_apart(council))

    def test_days_needed_of_more_than_twelve(self):
        self.assertGreater(SLOW[-1][1], 12)
        for council, days in SLOW:
            self.assertEqual(days_needed(council), days)
            self.assertEqual(days_after_which_all_share(council), days)
            self.assertIs(always_agrees(council), True)
            self.assertIsNone(kept_apart(council))

    def test_all_words_of_so_many_days_and_one_of_a_day_fewer(self):
        for council in [GOOD, DUO, SLOW[0][0]] + drawn_councils(34, 72, 4, 2):
            days = days_needed(council)
            if days is not None and len(council) > 1:
                for word in words_of(council, days) + words_of(council, days + 1):
                    self.assertTrue(all_share(sources_after(council, word)))
                self.assertFalse(all([all_share(sources_after(council, word)) for word in words_of(council, days - 1)]))

    def test_by_name_and_again(self):
        for _ in range(2):
            self.assertIs(always_agrees(council=GOOD), True)
            self.assertEqual(days_needed(council=GOOD), 2)
            self.assertEqual(apart_pairs(council=GOOD), 4)
            self.assertIsNone(kept_apart(council=GOOD))
            self.assertEqual(kept_apart(council=BAD), kept_apart(Council.read(str(BAD))))


class TestKeptApart(unittest.TestCase):
    def check(self, council):
        """That two lots are told that their word keeps apart."""
        found = kept_apart(council)
        self.assertEqual([found.__class__, len(found)], [tuple, 3])
        word, one, other = found
        self.assertGreaterEqual(len(word), 1)
        for part, many in ((word, len(council.ways)), (one, len(council)), (other, len(council))):
            self.assertIs(part.__class__, tuple)
            self.assertTrue(all([at.__class__ is int and 0 <= at < many for at in part]))
        for lot in (one, other):
            self.assertGreaterEqual(len(lot), 1)
            self.assertEqual(list(lot), sorted(set(lot)))
        self.assertTrue(kept(council, word, one, other))
        if len(word) <= 12:
            self.assertIs(is_kept(council, word, named(council, one), named(council, other)), True)
            thoughts = tuple([(int(at in one), 1) for at in range(len(council))])
            later = thoughts
            for _ in range(3):
                later = after(council, later, word)
                self.assertEqual([later[at] for at in one + other], [thoughts[at] for at in one + other])

    def test_exactly_if_it_does_not_always_agree(self):
        apart = 0
        for council in councils() + great_councils():
            with self.subTest(council=str(council)):
                if days_till_no_pair_is_left(council) is None:
                    self.check(council)
                    apart += 1
                else:
                    self.assertIsNone(kept_apart(council))
        self.assertGreater(apart, 100)

    def test_words_whose_days_cannot_change_places(self):
        # By the first way the lots come to be others, by the second one they come back.
        council = Council.read("a b c d\n1,0,0,0 1,0,0,0 0,1,0,0 0,1,0,0\n0,0,1,0 0,0,1,0 1,0,0,0 0,0,0,1")
        self.check(council)
        for council in drawn_councils(35, 400, 5, 3, (1,)):
            found = kept_apart(council)
            if found is not None and len(set(found[0])) > 1:
                self.check(council)

    def test_lots_that_change_places_need_the_word_twice(self):
        self.check(SWAP)
        self.assertEqual(kept_apart(SWAP)[0], (0, 0))

    def test_words_of_more_than_twelve_days(self):
        for council in LONG:
            self.check(council)
            self.assertGreater(len(kept_apart(council)[0]), 12)

    def test_one_day_is_enough_where_it_is(self):
        self.assertEqual(kept_apart(BAD)[0], (2,))
        self.assertEqual(kept_apart(RINGS)[0], (0,))


# For this council, which always agrees, kept_apart once went through all pairs of lots.
MANY_PAIRS = Council.read(
    "a b c d e f\n"
    "1,0,0,0,0,0 1,0,0,0,0,0 0,1,0,0,0,0 0,0,1,0,0,0 0,0,0,1,0,0 0,0,0,0,1,0\n"
    "1,0,0,0,0,0 1,1,0,0,0,0 0,1,1,0,0,0 0,0,1,1,0,0 0,0,0,1,1,0 0,0,0,0,1,1\n"
    "1,0,0,0,0,0 1,0,0,0,0,0 1,1,0,0,0,0 1,0,1,0,0,0 1,0,0,1,0,0 1,0,0,0,1,0\n"
    "1,0,0,0,0,0 1,1,0,0,0,0 1,0,1,0,0,0 0,1,0,1,0,0 0,0,1,0,1,0 0,0,0,1,0,1")


def lines_run(function, *arguments):
    """How many lines of Python a call runs: the same number each time, as its time is not."""
    count = 0

    def trace(frame, event, _):
        nonlocal count
        count += event == "line"
        return trace
    before = sys.gettrace()
    sys.settrace(trace)
    try:
        function(*arguments)
    finally:
        sys.settrace(before)
    return count


class TestWork(unittest.TestCase):
    def test_kept_apart_does_not_much_more_than_days_needed_where_the_council_always_agrees(self):
        self.assertEqual([days_needed(MANY_PAIRS), kept_apart(MANY_PAIRS)], [5, None])
        even = Council(NAMES, (((1,) * 6,) * 6,) * 6)
        for council in [MANY_PAIRS, GOOD, even] + [council for council, _ in SLOW]:
            self.assertIsNone(kept_apart(council))
            self.assertLess(lines_run(kept_apart, council), 1.2 * lines_run(days_needed, council) + 50)

    def test_where_it_does_not_one_day_is_looked_at_ahead_of_more(self):
        for council in (BAD, RINGS, drawn_apart()):
            self.assertEqual(len(kept_apart(council)[0]), 1)
            self.assertLess(lines_run(kept_apart, council), 3 * lines_run(days_needed, council) + 500)

    def test_the_answers_are_the_ones_that_they_were(self):
        expected = [((2,), (0,), (1,)), ((0,), (0, 1, 2), (3, 4, 5)), ((0, 0), (0,), (1,)),
                    ((0, 1, 0, 1, 1, 1, 1, 0, 1, 0, 0, 1, 0, 1, 1, 1, 1, 0, 1, 0), (0,), (1,)),
                    ((1, 0, 0, 1, 1, 1, 0, 1, 0, 1, 0, 0, 1, 1, 1, 0, 1, 0), (0,), (1,))]
        self.assertEqual([kept_apart(council) for council in (BAD, RINGS, SWAP) + LONG], expected)

    def test_the_first_pair_of_lots_with_a_shortest_word(self):
        many = 0
        # Here a pair of lots comes back in three days, and one behind it in two.
        sooner = [Council.read("a b c d e f\n" + text) for text in (
            "0,0,0,0,0,1 0,0,0,0,1,0 1,0,0,0,0,0 1,0,0,0,0,0 1,0,0,0,1,0 0,0,1,0,0,0\n"
            "0,0,0,1,0,0 0,0,1,0,0,0 0,0,1,0,0,0 0,0,1,0,0,0 0,1,0,0,1,1 1,0,0,0,0,0",
            "0,1,0,0,0,0 0,0,0,0,0,1 0,0,0,0,1,0 0,0,1,0,0,0 0,0,0,0,0,1 0,1,0,0,0,0\n"
            "0,1,0,0,0,0 0,0,0,1,0,0 1,1,1,0,1,0 0,1,0,0,0,0 0,0,0,1,0,0 1,0,0,0,0,0")]
        self.assertEqual([kept_apart(council) for council in sooner], [((1, 0), (0,), (3,)), ((1, 1), (1,), (3,))])
        for council in sooner + small_councils()[::3] + drawn_councils(42, 144, 4, 3, (1,)):
            found = kept_apart(council)
            if found is not None:
                many += len(found[0]) > 1
                self.assertEqual(found, first_kept(council))
        self.assertGreater(many, 5)


def drawn_apart():
    """Six minds that hear themselves alone, by six ways."""
    return Council(NAMES, (tuple([tuple([int(own == other) for other in range(6)]) for own in range(6)]),) * 6)


def first_kept(council):
    """The first pair of lots whose sources, after one of the shortest words that do so, are just these lots."""
    lots = sorted(lots_of(council), key=lambda lot: sum([2 ** at for at in lot]))
    for days in itertools.count(1):
        words = sorted(words_of(council, days), key=lambda word: word[::-1])
        for one, other in itertools.product(lots, repeat=2):
            for word in words:
                found = sources_after(council, word)
                if not set(one) & set(other) and all(
                        [frozenset().union(*[found[at] for at in lot]) == set(lot) for lot in (one, other)]):
                    return word, one, other


class TestApartPairs(unittest.TestCase):
    def test_against_all_pairs(self):
        for council in councils() + great_councils():
            with self.subTest(council=str(council)):
                self.assertEqual(apart_pairs(council), len(reached(council)))

    def test_of_minds_that_hear_themselves_alone(self):
        for many in range(1, 7):
            way = tuple([tuple([int(one == other) for one in range(many)]) for other in range(many)])
            self.assertEqual(apart_pairs(Council(NAMES[:many], (way,))), many * (many - 1) // 2)

    def test_pairs_are_unordered(self):
        self.assertEqual(apart_pairs(SWAP), 1)


class TestIsKept(unittest.TestCase):
    def test_all_lots_and_short_words(self):
        seen = {True: 0, False: 0}
        for council in [GOOD, BAD, DUO, ONE, SWAP] + drawn_councils(36, 24, 4, 3):
            for word in words_of(council, 1) + words_of(council, 2):
                for one, other in itertools.product(lots_of(council), repeat=2):
                    told = is_kept(council, word, named(council, one), named(council, other))
                    self.assertIs(told, kept(council, word, one, other), (str(council), word, one, other))
                    seen[told] += 1
        self.assertGreater(min(seen.values()), 100)

    def test_words_of_twelve_days(self):
        draw = random.Random(37)
        for council in named_councils():
            word = drawn_word(draw, council, 12)
            for one, other in itertools.product(lots_of(council), repeat=2):
                told = is_kept(council, word, named(council, one), named(council, other))
                self.assertIs(told, kept(council, word, one, other))

    def test_lots_with_a_common_mind(self):
        # By this word each lot has its sources in itself.
        for one, other in ((("ann",), ("ann",)), (("ann", "bob"), ("bob",)), (("ann", "bob"), ("cyd", "bob"))):
            self.assertIs(is_kept(BAD, (2,), one, other), False)
            self.assertIs(is_kept(BAD, (2,), other, one), False)
        self.assertIs(is_kept(ONE, (0,), ("x",), ("x",)), False)

    def test_lots_in_any_order(self):
        for one in itertools.permutations(("a", "b", "c")):
            for other in itertools.permutations(("d", "e", "f")):
                self.assertIs(is_kept(RINGS, (0,), one, other), True)
                self.assertIs(is_kept(RINGS, (0, 1), other, one), False)
                self.assertIs(is_kept(other=other, one=one, word=(0,) * 12, council=RINGS), True)

    def refused(self, error, given, *arguments):
        named_arguments = dict(zip(("council", "word", "one", "other"), arguments))
        for call in (lambda: is_kept(*arguments), lambda: is_kept(**named_arguments)):
            with self.assertRaises(error) as caught:
                call()
            if error is InvalidWord:
                self.assertEqual(caught.exception.index, given)
            elif error is not NoDays:
                self.assertIs(caught.exception.given, given)

    def test_lots_that_are_no_tuples_or_empty(self):
        for lot in other_kinds() + [0, 1, "", "ann", "x", ["ann"], (), {"ann"}, frozenset(["ann"])]:
            with self.subTest(kind=lot.__class__.__name__):
                self.refused(InvalidName, lot, BAD, (2,), lot, ("bob",))
                self.refused(InvalidName, lot, BAD, (2,), ("bob",), lot)

    def test_an_element_twice_whatever_it_is(self):
        for value in all_kinds() + ["ann", "zed", ("ann",), ["ann"], GOOD, is_kept]:
            for lot in ((value, value), (value, "bob", value), ("bob", value, value), ("zed", 5, value, b"5", value)):
                with self.subTest(kind=value.__class__.__name__):
                    self.refused(InvalidName, lot, BAD, (2,), lot, ("cyd",))
                    self.refused(InvalidName, lot, BAD, (2,), ("cyd",), lot)
        # Not the very same, but equal.
        for one, other in ((["ann"], ["ann"]), (10 ** 79, int("1" + "0" * 79)), ({"a": 1}, {"a": 1}), (("z", 1), ("z", 1)),
                           (GOOD, Council.read(str(GOOD))), (((), [1]), ((), [1]))):
            lot = ("ann", one, other)
            self.refused(InvalidName, lot, BAD, (2,), lot, ("cyd",))
            self.refused(InvalidName, lot, BAD, (2,), ("cyd",), lot)

    def test_the_first_element_that_is_no_name_of_a_mind(self):
        for value in all_kinds() + ["zed", "Ann", "ann ", "an", ("bob",), ("ann", "bob"), GOOD]:
            if value.__class__ is not str or value not in BAD.minds:
                for lot in ((value,), ("cyd", value), (value, "cyd"), ("cyd", value, "zoe"), (value, "zoe", "cyd")):
                    with self.subTest(kind=value.__class__.__name__):
                        self.refused(UnknownName, value, BAD, (2,), lot, ("bob",))
                        self.refused(UnknownName, value, BAD, (2,), ("bob",), lot)

    def test_true_is_not_the_same_as_1(self):
        for lot in ((1, True), (0, False, "ann"), ((1,), (True,)), ((0, (1, 2)), (0, (True, 2)))):
            self.refused(UnknownName, lot[0], BAD, (2,), lot, ("bob",))
        for value in (EqualsAll(), EqualsNone()):
            self.refused(UnknownName, value, BAD, (2,), ("ann", value, "bob"), ("cyd",))

    def test_a_lot_with_an_element_twice_ahead_of_unknown_names(self):
        lot = ("zed", "ann", "ann")
        self.refused(InvalidName, lot, BAD, (2,), lot, ("bob",))
        self.refused(InvalidName, lot, BAD, (2,), ("bob",), lot)

    def test_one_ahead_of_other(self):
        twice = ("ann", "ann")
        unknown = ("zed",)
        self.refused(InvalidName, twice, BAD, (2,), twice, unknown)
        self.refused(UnknownName, "zed", BAD, (2,), unknown, twice)
        self.refused(InvalidName, (), BAD, (2,), (), ["ann"])
        self.refused(UnknownName, "zed", BAD, (2,), unknown, ("zoe",))
        # Each lot is asked by itself ahead of what they have in common.
        self.refused(UnknownName, "zed", BAD, (2,), ("ann",), ("ann", "zed"))

    def test_the_word_ahead_of_the_lots(self):
        for lot in ((), ("zed",), ["ann"], ("ann", "ann")):
            self.refused(NoDays, None, BAD, (), lot, lot)
            self.refused(NoDays, None, BAD, (), ("ann",), lot)
            self.refused(InvalidWord, 0, BAD, (3,), lot, lot)
            self.refused(InvalidWord, 12, BAD, (0,) * 13, lot, lot)
            self.refused(InvalidWord, None, BAD, [], lot, lot)
        self.refused(NoDays, None, BAD, (), ("ann",), ("bob",))


class TestExamples(unittest.TestCase):
    def test_the_examples_of_the_document(self):
        self.assertEqual(
            [always_agrees(GOOD), days_needed(GOOD), kept_apart(GOOD), always_agrees(BAD), days_needed(BAD),
             apart_pairs(GOOD), days_needed(DUO)],
            [True, 2, None, False, None, 4, 1])
        self.assertEqual(
            [is_kept(BAD, (2,), ("ann",), ("bob", "cyd")), is_kept(BAD, (2, 0), ("ann",), ("bob",)),
             is_kept(BAD, (0, 2), ("bob",), ("ann", "cyd"))],
            [True, False, False])


if __name__ == "__main__":
    unittest.main()
