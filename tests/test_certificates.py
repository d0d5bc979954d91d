import random
import unittest

from alwaysagree.agreeing import days_needed, kept_apart
from alwaysagree.certificates import certify_council, certify_end, certify_left, certify_voice
from alwaysagree.checker import accepts
from alwaysagree.councils import Council
from alwaysagree.ending import end_shares, settles
from alwaysagree.errors import InvalidWord, NoDays, NoEnd, NotACouncil, UnknownName
from alwaysagree.leaving import left_after
from alwaysagree.voicing import voice_word
from tests.kinds import all_kinds
from tests.talks import (
    BAD, DUO, GOOD, GREAT, LONG, ONE, RINGS, SLOW, SWAP, drawn_councils, drawn_word, kept, named_councils, ring,
    small_councils,
)


def councils(seed):
    return named_councils() + [GREAT, ring(5), ring(6)] + small_councils()[::5] + drawn_councils(seed, 72)


def refused(test, error, ask, *arguments):
    with test.assertRaises(error) as caught:
        ask(*arguments)
    test.assertIs(caught.exception.__class__, error)
    return caught.exception


class Certificates(unittest.TestCase):
    def check(self, found, claim, certificate):
        """That this is the pair of a claim and a certificate, and that the checker accepts them."""
        self.assertEqual([found.__class__, len(found)], [tuple, 2])
        self.assertEqual(found, (claim, certificate))
        self.assertEqual([found[0].__class__, found[1].__class__], [tuple, tuple])
        self.assertIs(accepts(*found), True)


class TestCouncil(Certificates):
    def test_what_the_functions_tell(self):
        counts = {"always": 0, "not always": 0}
        for council in councils(121):
            with self.subTest(council=str(council)):
                found, days = certify_council(council), days_needed(council)
                if days is not None:
                    self.check(found, ("always", str(council), days), ())
                else:
                    word, one, other = kept_apart(council)
                    lots = [tuple([council.minds[at] for at in lot]) for lot in (one, other)]
                    self.check(found, ("not always", str(council)), (word, *lots))
                    self.assertTrue(kept(council, word, one, other))
                counts[found[0][0]] += 1
        self.assertGreater(min(counts.values()), 50)

    def test_many_days_needed(self):
        for council, days in SLOW:
            self.check(certify_council(council), ("always", str(council), days), ())

    def test_certificates_of_many_days(self):
        for council, most in zip(LONG, (20, 18)):
            claim, certificate = certify_council(council)
            self.assertEqual(claim, ("not always", str(council)))
            self.assertGreater(len(certificate[0]), 12)
            self.assertLessEqual(len(certificate[0]), most)
            self.assertIs(accepts(claim, certificate), True)
            # No day can be left out, and none be another one.
            word, one, other = certificate
            for at, way in enumerate(word):
                for wrong in (word[:at] + word[at + 1:], word[:at] + (1 - way,) + word[at + 1:]):
                    self.assertIs(accepts(claim, (wrong, one, other)), False)
            self.assertIs(accepts(claim, (word * 5, one, other)), True)

    def test_by_name_and_again(self):
        for _ in range(2):
            self.assertEqual(certify_council(council=GOOD), (("always", str(GOOD), 2), ()))
            self.assertEqual(certify_council(council=BAD), certify_council(Council.read(str(BAD))))


class TestLeft(Certificates):
    def test_what_the_functions_tell(self):
        draw = random.Random(123)
        for council in councils(123):
            for days in (0, 1, 2, 12):
                word = drawn_word(draw, council, days)
                self.check(certify_left(council, word), ("left", str(council), word, left_after(council, word)), ())
        self.check(certify_left(word=(1,), council=GOOD), ("left", str(GOOD), (1,), (1, 1)), ())


class TestEnd(Certificates):
    def test_what_the_functions_tell(self):
        draw, ends, none = random.Random(124), 0, 0
        for council in councils(124):
            for days in (1, 2, 12):
                word = drawn_word(draw, council, days)
                if settles(council, word):
                    ends += 1
                    self.check(certify_end(council, word), ("end", str(council), word, end_shares(council, word)), ())
                else:
                    none += 1
                    refused(self, NoEnd, certify_end, council, word)
        self.assertGreater(min(ends, none), 50)
        self.check(certify_end(word=(0,), council=DUO), ("end", str(DUO), (0,), ((1, 3), (2, 3))), ())

    def test_no_days_ahead_of_no_end(self):
        for council in named_councils():
            refused(self, NoDays, certify_end, council, ())
        for council in (SWAP, RINGS):
            refused(self, NoEnd, certify_end, council, (0,))
            self.assertEqual(refused(self, InvalidWord, certify_end, council, (0, 2)).index, 1)


class TestVoice(Certificates):
    def test_what_the_functions_tell(self):
        voices, none = 0, 0
        for council in councils(125):
            for mind in council.minds:
                word = voice_word(council, mind)
                if word is None:
                    none += 1
                    self.assertIsNone(certify_voice(council, mind))
                else:
                    voices += 1
                    self.check(certify_voice(council, mind), ("voice", str(council), mind), word)
        self.assertGreater(min(voices, none), 50)
        self.check(certify_voice(mind="bob", council=GOOD), ("voice", str(GOOD), "bob"), (0,))
        self.check(certify_voice(ONE, "x"), ("voice", str(ONE), "x"), ())

    def test_words_of_more_than_twelve_days(self):
        for mind in ring(6).minds:
            claim, word = certify_voice(ring(6), mind)
            self.assertGreater(len(word), 24)
            self.assertIs(accepts(claim, word), True)


class TestErrors(unittest.TestCase):
    def test_in_their_order(self):
        for value in all_kinds() + [str(GOOD)]:
            for ask, arguments in ((certify_council, ()), (certify_left, (None,)), (certify_end, ((),)), (certify_voice, (None,))):
                self.assertIs(refused(self, NotACouncil, ask, value, *arguments).given, value)
        for ask in (certify_left, certify_end):
            self.assertIsNone(refused(self, InvalidWord, ask, GOOD, [0]).index)
            self.assertEqual(refused(self, InvalidWord, ask, GOOD, (0, 1, True)).index, 2)
            self.assertEqual(refused(self, InvalidWord, ask, SWAP, (0,) * 13).index, 12)
        self.assertEqual(refused(self, UnknownName, certify_voice, GOOD, "dan").given, "dan")


class TestExamples(unittest.TestCase):
    def test_the_examples_of_the_document(self):
        claim, paper = certify_council(BAD)
        self.assertEqual(
            [claim[0], accepts(claim, paper), certify_council(GOOD)[0][2], certify_left(GOOD, (1,))[0][3],
             certify_end(DUO, (0,))[0][3], certify_voice(GOOD, "bob"), certify_voice(GOOD, "ann")],
            ["not always", True, 2, (1, 1), ((1, 3), (2, 3)),
             (("voice", "ann bob cyd\n1,1,0 0,1,0 0,1,1\n0,1,1 0,1,0 1,0,1", "bob"), (0,)), None])


if __name__ == "__main__":
    unittest.main()
