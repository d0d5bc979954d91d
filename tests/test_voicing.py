import random
import unittest

from alwaysagree.councils import Council
from alwaysagree.days import sources
from alwaysagree.voicing import reached, voice_word, voices
from tests.talks import (
    BAD, DUO, GOOD, GREAT, NAMES, ONE, RINGS, SLOW, SWAP, drawn_councils, drawn_word, named_councils, reached_by, ring,
    small_councils, sources_after, words_of,
)



def is_heard_by_all(council, mind, word):
    return len(reached_by(council, council.minds.index(mind), word)) == len(council)


def first_word(council, mind, most):
    """The first word, of the shortest ones up to so many days, after which the mind is a source of all; None if none."""
    for days in range(most + 1):
        for word in words_of(council, days):
            if is_heard_by_all(council, mind, word):
                return word
    return None


def days_to_all(council, mind):
    """The least number of days after which some word has the mind as a source of all minds; None if there is none."""
    lots, seen = {frozenset([council.minds.index(mind)])}, set()
    days = 0
    while lots - seen:
        if any(len(lot) == len(council) for lot in lots):
            return days
        seen |= lots
        lots = {frozenset([at for at, row in enumerate(way) if any(row[one] for one in lot)])
                for lot in lots for way in council.ways}
        days += 1
    return None


class TestVoiceWord(unittest.TestCase):
    def test_against_a_search_through_all_words(self):
        seen = {True: 0, False: 0}
        # With three minds a row of lots that does not come back has at most seven of them.
        for council in small_councils() + drawn_councils(71, 60, 3, 2) + [GOOD, BAD, DUO, ONE, SWAP, ring(2), ring(3)]:
            for mind in council.minds:
                with self.subTest(council=str(council), mind=mind):
                    expected = first_word(council, mind, 6)
                    self.assertEqual(voice_word(council, mind), expected)
                    seen[expected is None] += 1
        self.assertGreater(min(seen.values()), 100)

    def test_the_first_word_with_more_minds_and_ways(self):
        long = 0
        for council in drawn_councils(72, 144) + drawn_councils(73, 72, 6, 6, (1,)) + named_councils():
            for mind in council.minds:
                with self.subTest(council=str(council), mind=mind):
                    days, word = days_to_all(council, mind), voice_word(council, mind)
                    if days is None:
                        self.assertIsNone(word)
                    elif len(council.ways) ** days <= 1300:
                        self.assertEqual(word, first_word(council, mind, days))
                        long += days > 1
                    else:
                        self.assertEqual(len(word), days)
                        self.assertTrue(is_heard_by_all(council, mind, word))
        self.assertGreater(long, 30)

    def test_the_word_is_a_tuple_of_indexes(self):
        for council in named_councils():
            for mind in council.minds:
                word = voice_word(council, mind)
                if word is not None:
                    self.assertIs(word.__class__, tuple)
                    self.assertTrue(all([at.__class__ is int and 0 <= at < len(council.ways) for at in word]))

    def test_of_like_words_the_first_one(self):
        # Two days are needed, and the days may be told in four orders.
        way = ((1, 0, 0), (1, 1, 0), (0, 1, 1))
        council = Council(("a", "b", "c"), (((1, 0, 0), (0, 1, 0), (0, 0, 1)), way, way))
        self.assertEqual(voice_word(council, "a"), (1, 1))
        # By the first way alone it takes longer, so the second one comes first.
        council = Council(("a", "b"), (((0, 1), (1, 0)), ((1, 0), (1, 0))))
        self.assertEqual(voice_word(council, "a"), (1,))
        self.assertEqual(voice_word(council, "b"), (0, 1))

    def test_words_of_more_than_twelve_days(self):
        self.assertEqual([len(voice_word(ring(4), mind)) for mind in NAMES[:4]], [9, 12, 11, 10])
        self.assertEqual(voice_word(ring(4), "b1"), first_word(ring(4), "b1", 12))
        for many in (5, 6):
            council, least = ring(many), (many - 1) ** 2
            expected = [least] + [least + many - at for at in range(1, many)]
            for mind, days in zip(council.minds, expected):
                word = voice_word(council, mind)
                self.assertEqual([len(word), days_to_all(council, mind)], [days, days])
                self.assertTrue(is_heard_by_all(council, mind, word))
                # The ways change nothing when the second one is told again, so no word may have it twice in a row.
                self.assertNotIn((1, 1), list(zip(word, word[1:])))
        self.assertEqual(voice_word(ring(5), "a"), (1, 0, 0, 0, 0) * 3 + (1,))

    def test_one_mind_needs_no_day(self):
        self.assertEqual(voice_word(ONE, "x"), ())
        self.assertEqual(voice_word(Council(("a",), (((1,),),) * 6), "a"), ())

    def test_two_minds_or_more_need_a_day(self):
        for many in range(2, 7):
            council = Council(NAMES[:many], (((1,) * many,) * many,) * 2)
            for mind in council.minds:
                self.assertEqual(voice_word(council, mind), (0,))

    def test_none_where_a_mind_is_never_heard_by_all(self):
        self.assertIsNone(voice_word(GOOD, "ann"))
        self.assertIsNone(voice_word(SWAP, "a"))
        # Here nobody hears the mind at all.
        self.assertIsNone(voice_word(Council(("a", "b"), (((0, 1), (0, 1)),)), "a"))
        for mind in RINGS.minds:
            self.assertIsNone(voice_word(RINGS, mind))

    def test_the_size_of_weights_changes_nothing(self):
        words = [voice_word(GREAT, mind) for mind in GREAT.minds]
        least = Council(GREAT.minds, tuple([tuple([tuple([min(1, weight) for weight in row]) for row in way])
                                            for way in GREAT.ways]))
        self.assertEqual(words, [voice_word(least, mind) for mind in least.minds])
        self.assertEqual(words, [first_word(least, mind, 3) for mind in least.minds])

    def test_by_name_and_again(self):
        for _ in range(2):
            self.assertEqual(voice_word(mind="bob", council=GOOD), (0,))
            self.assertEqual(voices(council=GOOD), ("bob",))


class TestVoices(unittest.TestCase):
    def test_the_minds_with_a_word(self):
        fewer = 0
        for council in named_councils() + small_councils() + drawn_councils(74, 144) + [ring(5), ring(6), GREAT]:
            expected = tuple([mind for mind in council.minds if days_to_all(council, mind) is not None])
            self.assertEqual(voices(council), expected)
            fewer += len(expected) < len(council)
        self.assertGreater(fewer, 50)

    def test_a_council_that_always_agrees_has_one(self):
        for council, _ in SLOW:
            self.assertNotEqual(voices(council), ())

    def test_none_one_and_all(self):
        self.assertEqual(voices(SWAP), ())
        self.assertEqual(voices(GOOD), ("bob",))
        self.assertEqual(voices(ONE), ("x",))
        self.assertEqual(voices(ring(6)), NAMES)

    def test_in_the_order_of_the_council(self):
        council = Council(("cyd", "ann", "bob"), (((1, 0, 1), (1, 0, 0), (1, 0, 1)),))
        self.assertEqual(voices(council), ("cyd", "bob"))


class TestReached(unittest.TestCase):
    def test_the_minds_of_which_it_is_a_source(self):
        draw = random.Random(75)
        for council in named_councils() + small_councils()[::3] + drawn_councils(75, 72) + [GREAT]:
            for days in (0, 1, 2, 3, 12):
                word = drawn_word(draw, council, days)
                found = sources_after(council, word)
                for at, mind in enumerate(council.minds):
                    told = reached(council, mind, word)
                    self.assertIs(told.__class__, tuple)
                    self.assertEqual(told, tuple([council.minds[own] for own in range(len(council)) if at in found[own]]))
                    self.assertEqual(told, tuple([own for own in council.minds if mind in sources(council, word, own)]))

    def test_after_the_empty_word_itself_alone(self):
        for council in named_councils():
            for mind in council.minds:
                self.assertEqual(reached(council, mind, ()), (mind,))

    def test_the_first_day_comes_first(self):
        council = Council(("a", "b", "c"), (((1, 0, 0), (1, 0, 0), (0, 0, 1)), ((1, 0, 0), (0, 1, 0), (0, 1, 0))))
        self.assertEqual(reached(council, "a", (0, 1)), ("a", "b", "c"))
        self.assertEqual(reached(council, "a", (1, 0)), ("a", "b"))

    def test_a_mind_that_nobody_hears(self):
        council = Council(("a", "b"), (((0, 1), (0, 1)),))
        self.assertEqual(reached(council, "a", (0,)), ())
        self.assertEqual(reached(word=(0, 0), council=council, mind="a"), ())
        self.assertEqual(reached(council, "b", (0,) * 12), ("a", "b"))

    def test_after_the_word_of_a_voice_all(self):
        for council in named_councils() + drawn_councils(76, 72):
            for mind in voices(council):
                word = voice_word(council, mind)
                if len(word) <= 12:
                    self.assertEqual(reached(council, mind, word), council.minds)


class TestExamples(unittest.TestCase):
    def test_the_examples_of_the_document(self):
        self.assertEqual(
            [voice_word(GOOD, "bob"), voice_word(GOOD, "ann"), voices(GOOD), voice_word(DUO, "ann"),
             reached(GOOD, "cyd", (1,)), reached(GOOD, "cyd", (1, 1)), voice_word(Council(("x",), (((1,),),)), "x")],
            [(0,), None, ("bob",), (0,), ("ann", "cyd"), ("ann", "cyd"), ()])


if __name__ == "__main__":
    unittest.main()
