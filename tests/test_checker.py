import random
import unittest

from alwaysagree.agreeing import days_needed, kept_apart
from alwaysagree.checker import accepts
from alwaysagree.councils import Council
from alwaysagree.ending import end_shares, settles
from alwaysagree.leaving import left_after
from alwaysagree.limits import MOST_WEIGHT
from alwaysagree.voicing import voice_word
from tests.kinds import all_kinds, deep, other_kinds
from tests.talks import (
    BAD, DUO, GOOD, GREAT, ONE, RINGS, SLOW, SWAP, days_till_no_pair_is_left, drawn_council, drawn_councils,
    drawn_word, kept, named_councils, reached_by, ring,
)

# Texts that are no text of a council.
NO_TEXTS = [
    "", "ann", "ann\n", "ann\n0", "ann\n01", "ann\n1\n", "\nann\n1", "ann bob\n1,1 1,3 ", " ann bob\n1,1 1,3", "Ann\n1",
    "ann bob\n1,1", "ann bob\n1,1 1,3 1,1", "ann ann\n1,1 1,3", "ann bob\n1,1 0,0", "ann bob\n1,1 1,-3", "ann bob\n1,1  1,3",
    "ann bob\n1,1 1,1000000001", "ann bob\n1,1 1,03", "ann\n1\n1\n1\n1\n1\n1\n1", "a b c d e f g\n" + " ".join([",".join("1" * 7)] * 7),
]
# No indexes of a way of BAD.
NO_WAYS = other_kinds() + [3, -1, -3, 10 ** 79, "", "0", (), (0,), deep(97)]


def names(council, lot):
    return tuple([council.minds[at] for at in lot])


def right_claims(seed):
    """Pairs of a claim that is true and a right certificate, of all forms, for many councils."""
    draw = random.Random(seed)
    found = []
    for council in named_councils() + [GREAT, ring(5), ring(6)] + drawn_councils(seed, 72):
        text, days = str(council), days_needed(council)
        if days is not None:
            found.append((("always", text, days), ()))
        else:
            word, one, other = kept_apart(council)
            found.append((("not always", text), (word, names(council, one), names(council, other))))
        for many in (0, 1, 3, 12):
            word = drawn_word(draw, council, many)
            found.append((("left", text, word, left_after(council, word)), ()))
            if many > 0 and settles(council, word):
                found.append((("end", text, word, end_shares(council, word)), ()))
        for mind in council.minds:
            if voice_word(council, mind) is not None:
                found.append((("voice", text, mind), voice_word(council, mind)))
    return found


def with_one(values, at, value):
    return values[:at] + (value,) + values[at + 1:]


class TestRight(unittest.TestCase):
    def test_right_certificates_are_accepted(self):
        counts = {}
        for claim, certificate in right_claims(111):
            with self.subTest(claim=claim, certificate=certificate):
                self.assertIs(accepts(claim, certificate), True)
                self.assertIs(accepts(certificate=certificate, claim=claim), True)
                counts[claim[0]] = counts.get(claim[0], 0) + 1
        self.assertEqual(set(counts), {"always", "not always", "left", "end", "voice"})
        self.assertGreater(min(counts.values()), 20)

    def test_nothing_more_and_nothing_less(self):
        for claim, certificate in right_claims(112)[::2]:
            for wrong in (claim[:-1], claim + ((),), claim + (0,), claim[1:], (claim,), list(claim), claim[::-1], claim + claim[-1:]):
                with self.subTest(wrong=wrong):
                    self.assertIs(accepts(wrong, certificate), False)
            if claim[0] != "voice":
                for wrong in (certificate + ((),), (certificate,), list(certificate), None, certificate + (0,), [certificate]):
                    self.assertIs(accepts(claim, wrong), False)

    def test_another_form_of_claim(self):
        kinds = ("always", "not always", "left", "end", "voice")
        for claim, certificate in right_claims(113)[::3]:
            for kind in kinds:
                if kind != claim[0] and (kind, claim[0]) != ("left", "end") and (kind, claim[0]) != ("end", "left"):
                    self.assertIs(accepts((kind,) + claim[1:], certificate), False)
            for kind in ("", "Always", "always ", "notalways", "voices", "way", "days"):
                self.assertIs(accepts((kind,) + claim[1:], certificate), False)


class TestAlways(unittest.TestCase):
    def test_one_day_more_or_fewer(self):
        for council in named_councils() + drawn_councils(114, 72):
            days = days_till_no_pair_is_left(council)
            for many in list(range(-1, 35)) + [301, 10 ** 79, -(10 ** 79)]:
                self.assertIs(accepts(("always", str(council), many), ()), many == days, (str(council), many))

    def test_numbers_that_are_none(self):
        for council, days in ((DUO, 1), (ONE, 0)):
            for value in other_kinds() + [str(days), (days,), [days], True, False, (), "", deep(99)]:
                self.assertIs(accepts(("always", str(council), value), ()), False)

    def test_other_certificates(self):
        for certificate in all_kinds():
            expected = isinstance(certificate, tuple) and len(certificate) == 0
            self.assertIs(accepts(("always", str(GOOD), 2), certificate), expected)


class TestNotAlways(unittest.TestCase):
    def test_against_all_lots(self):
        draw, counts = random.Random(115), {True: 0, False: 0}
        sparse = [drawn_council(draw, draw.randrange(2, 7), draw.randrange(1, 4), 9, (1,)) for _ in range(72)]
        for council in [BAD, SWAP, RINGS] + sparse:
            for _ in range(60):
                word = drawn_word(draw, council, draw.randrange(1, 4))
                minds = draw.sample(range(len(council)), len(council))
                place = draw.randrange(1, len(council))
                one, other = tuple(minds[:place]), tuple(minds[place - (draw.randrange(9) == 0):])
                told = accepts(("not always", str(council)), (word, names(council, one), names(council, other)))
                self.assertIs(told, kept(council, word, one, other))
                counts[told] += 1
        self.assertGreater(min(counts.values()), 100)

    def test_none_for_a_council_that_always_agrees(self):
        draw = random.Random(116)
        for council in [GOOD, DUO] + [council for council, _ in SLOW]:
            for _ in range(300):
                word = drawn_word(draw, council, draw.randrange(20))
                lots = [tuple(draw.sample(council.minds, draw.randrange(len(council) + 1))) for _ in range(2)]
                self.assertIs(accepts(("not always", str(council)), (word, *lots)), False)

    def test_words_of_any_number_of_days(self):
        for many in (1, 12, 13, 14, 100, 3000):
            self.assertIs(accepts(("not always", str(BAD)), ((2,) * many, ("ann",), ("bob",))), True)
            self.assertIs(accepts(("not always", str(BAD)), ((2,) * many + (0,), ("ann",), ("bob",))), False)
            self.assertIs(accepts(("not always", str(BAD)), ((0,) + (2,) * many, ("ann",), ("bob",))), False)
            self.assertIs(accepts(("not always", str(SWAP)), ((0,) * many, ("a",), ("b",))), many % 2 == 0)
        self.assertIs(accepts(("not always", str(BAD)), ((), ("ann",), ("bob",))), False)

    def test_lots_that_are_none(self):
        claim, right = ("not always", str(BAD)), ((2,), ("ann",), ("bob", "cyd"))
        self.assertIs(accepts(claim, right), True)
        wrong = other_kinds() + [0, "", "ann", "abc", (), ("ann", "ann"), ("ann", "dan"), ("dan",), (0,), (1, 2), ["ann"]]
        wrong += [(value,) for value in all_kinds() if repr(value) != "'ann'"] + [("ann", value) for value in other_kinds()]
        for lot in wrong:
            with self.subTest(kind=lot.__class__.__name__):
                self.assertIs(accepts(claim, with_one(right, 1, lot)), False)
                self.assertIs(accepts(claim, with_one(right, 2, lot)), False)
        for lots in ((("ann",), ("ann",)), (("ann", "bob"), ("bob", "cyd")), (("bob", "cyd", "bob"), ("ann",))):
            self.assertIs(accepts(claim, (right[0], *lots)), False)
        for lots in ((("ann",), ("bob",)), (("cyd", "bob"), ("ann",)), (("bob",), ("cyd", "ann"))):
            self.assertIs(accepts(claim, (right[0], *lots)), True)

    def test_words_that_are_none(self):
        claim, right = ("not always", str(BAD)), ((2,), ("ann",), ("bob", "cyd"))
        for word in all_kinds() + [[2]] + [(value,) for value in NO_WAYS] + [(2, value) for value in NO_WAYS]:
            with self.subTest(kind=word.__class__.__name__):
                self.assertIs(accepts(claim, with_one(right, 0, word)), False)

    def test_one_weight_that_is_another(self):
        # By one ear more, or one less, the same certificate is one no more.
        certificate = ((0,), ("a", "b"), ("c",))
        for text, expected in (("1,1,0 1,0,0 0,0,1", True), ("1,1,0 1,0,0 0,0,9", True), ("1,1,0 1,0,1 0,0,1", False),
                               ("1,1,0 1,0,0 0,1,1", False), ("0,0,1 1,0,0 0,0,1", False)):
            self.assertIs(accepts(("not always", "a b c\n" + text), certificate), expected)


class TestLeft(unittest.TestCase):
    def test_one_number_that_is_another(self):
        for claim, certificate in right_claims(117):
            if claim[0] == "left":
                top, bottom = claim[3]
                for part in ((top + 1, bottom), (top - 1, bottom), (top, bottom + 1), (-top, bottom + 2), (top * 2, bottom * 2),
                             (bottom - top, bottom), (top, -bottom), (-top, -bottom), (top * 7, bottom * 7), (top, 0), (0, 0)):
                    self.assertIs(accepts(with_one(claim, 3, part), certificate), part == claim[3])

    def test_one_day_that_is_another(self):
        for council in [GOOD, BAD] + drawn_councils(118, 36, 4, 3):
            for at in range(len(council.ways)):
                claim = ("left", str(council), (0, 0), left_after(council, (at, 0)))
                self.assertIs(accepts(claim, ()), left_after(council, (0, 0)) == left_after(council, (at, 0)))

    def test_one_weight_that_is_another(self):
        self.assertIs(accepts(("left", "a b\n1,1 1,3", (0,), (1, 4)), ()), True)
        self.assertIs(accepts(("left", "a b\n1,1 1,4", (0,), (1, 4)), ()), False)
        self.assertIs(accepts(("left", "a b\n2,2 1,3", (0,), (1, 4)), ()), True)

    def test_words_of_more_than_twelve_days(self):
        self.assertIs(accepts(("left", str(BAD), (2,) * 12, (1, 1)), ()), True)
        self.assertIs(accepts(("left", str(BAD), (2,) * 13, (1, 1)), ()), False)
        self.assertIs(accepts(("left", str(ONE), (), (0, 1)), ()), True)
        self.assertIs(accepts(("left", str(ONE), (0,) * 13, (0, 1)), ()), False)

    def test_values_that_are_none(self):
        for value in all_kinds() + [[2]] + [(value,) for value in NO_WAYS] + [(2, value) for value in NO_WAYS]:
            if repr(value) not in ("()", "(0,)"):
                self.assertIs(accepts(("left", str(BAD), value, (1, 1)), ()), False)
        for value in all_kinds() + [(True, 1), (1, True), (True, True), [1, 1], (1,), (1, 1, 1), 1]:
            self.assertIs(accepts(("left", str(BAD), (2,), value), ()), False)
        self.assertIs(accepts(("left", str(ONE), (), (False, 1)), ()), False)
        for certificate in all_kinds():
            expected = isinstance(certificate, tuple) and len(certificate) == 0
            self.assertIs(accepts(("left", str(BAD), (2,), (1, 1)), certificate), expected)


class TestEnd(unittest.TestCase):
    def test_one_number_that_is_another(self):
        for claim, certificate in right_claims(119)[::2]:
            if claim[0] == "end":
                for at, (top, bottom) in enumerate(claim[3]):
                    for part in ((top + 1, bottom), (top - 1, bottom), (top, bottom + 1), (top * 2, bottom * 2), (-top, bottom + 2),
                                 (top, 0), (top, -bottom), (-top, -bottom), top):
                        wrong = with_one(claim, 3, with_one(claim[3], at, part))
                        self.assertIs(accepts(wrong, certificate), part == (top, bottom))
                for parts in (claim[3][:-1], claim[3] + ((0, 1),), list(claim[3]), claim[3] * 2, ()):
                    self.assertIs(accepts(with_one(claim, 3, parts), certificate), False)

    def test_minds_in_another_order(self):
        self.assertIs(accepts(("end", str(DUO), (0,), ((1, 3), (2, 3))), ()), True)
        self.assertIs(accepts(("end", str(DUO), (0,), ((2, 3), (1, 3))), ()), False)
        self.assertIs(accepts(("end", "bob ann\n1,1 1,3", (0,), ((1, 3), (2, 3))), ()), True)

    def test_one_weight_that_is_another(self):
        self.assertIs(accepts(("end", "a b\n1,1 1,4", (0,), ((1, 3), (2, 3))), ()), False)
        self.assertIs(accepts(("end", f"a b\n1,{MOST_WEIGHT} 0,1", (0,), ((0, 1), (1, 1))), ()), True)

    def test_a_word_that_does_not_settle(self):
        # Halves of each stay as they are, but the minds change places for ever.
        self.assertIs(accepts(("end", str(SWAP), (0,), ((1, 2), (1, 2))), ()), False)
        self.assertIs(accepts(("end", str(BAD), (2,), ((1, 1), (0, 1), (0, 1))), ()), False)
        self.assertIs(accepts(("end", str(BAD), (2, 1), end_shares(BAD, (2, 1))), ()), True)

    def test_no_days_and_more_than_twelve(self):
        shares = ((0, 1), (1, 1), (0, 1))
        for many in range(15):
            self.assertIs(accepts(("end", str(GOOD), (0,) * many, shares), ()), 1 <= many <= 12)
        self.assertIs(accepts(("end", str(ONE), (), ((1, 1),)), ()), False)
        self.assertIs(accepts(("end", str(ONE), (1,), ((1, 1),)), ()), True)

    def test_values_that_are_none(self):
        shares = ((0, 1), (1, 1), (0, 1))
        self.assertIs(accepts(("end", str(GOOD), (0,), shares), ()), True)
        for value in all_kinds() + [[0]] + [(value,) for value in NO_WAYS] + [(0, value) for value in NO_WAYS]:
            if repr(value) != "(0,)":
                self.assertIs(accepts(("end", str(GOOD), value, shares), ()), False)
        for value in all_kinds() + [list(shares), ((0, 1), (True, 1), (0, 1)), ((0, 1), (1, True), (0, 1)), ((False, 1),) + shares[1:],
                                    ([0, 1],) + shares[1:], ((0, 1), 1, (0, 1)), (0, 1, 0), ((0, 5), (1, 1), (0, 1))]:
            self.assertIs(accepts(("end", str(GOOD), (0,), value), ()), False)
        for certificate in all_kinds():
            expected = isinstance(certificate, tuple) and len(certificate) == 0
            self.assertIs(accepts(("end", str(GOOD), (0,), shares), certificate), expected)


class TestVoice(unittest.TestCase):
    def test_against_the_sources(self):
        draw, counts = random.Random(120), {True: 0, False: 0}
        for council in named_councils() + [ring(4)] + drawn_councils(120, 108):
            for at, mind in enumerate(council.minds):
                for many in (0, 1, 2, 5, 13, 20):
                    word = drawn_word(draw, council, many)
                    told = accepts(("voice", str(council), mind), word)
                    self.assertIs(told, len(reached_by(council, at, word)) == len(council))
                    counts[told] += 1
        self.assertGreater(min(counts.values()), 100)

    def test_words_of_any_number_of_days(self):
        for many in (1, 12, 13, 100, 3000):
            self.assertIs(accepts(("voice", str(DUO), "ann"), (0,) * many), True)
            self.assertIs(accepts(("voice", str(GOOD), "ann"), (0,) * many), False)
        self.assertIs(accepts(("voice", str(DUO), "ann"), ()), False)
        self.assertIs(accepts(("voice", str(ONE), "x"), ()), True)
        for mind in ring(6).minds:
            word = voice_word(ring(6), mind)
            self.assertGreater(len(word), 12)
            self.assertIs(accepts(("voice", str(ring(6)), mind), word), True)
            self.assertIs(accepts(("voice", str(ring(6)), mind), word[:-1]), False)
            self.assertIs(accepts(("voice", str(ring(6)), mind), word[1:]), False)

    def test_one_mind_that_is_another(self):
        self.assertIs(accepts(("voice", str(GOOD), "bob"), (0,)), True)
        for mind in other_kinds() + ["ann", "cyd", "dan", "bo", "Bob", "", 0, 1, ("bob",), deep(99)]:
            self.assertIs(accepts(("voice", str(GOOD), mind), (0,)), False)

    def test_values_that_are_none(self):
        for word in all_kinds() + [[0]] + [(value,) for value in NO_WAYS] + [(0, value) for value in NO_WAYS]:
            if repr(word) != "(0,)":
                self.assertIs(accepts(("voice", str(GOOD), "bob"), word), False)
        # By the other way than the first one two days are needed here.
        council = Council(("a", "b"), (((0, 1), (1, 0)), ((1, 0), (1, 0))))
        self.assertEqual([accepts(("voice", str(council), "b"), word) for word in ((1,), (0, 1), (1, 0), (0, True), (False, 1))],
                         [False, True, False, False, False])


class TestAnyValues(unittest.TestCase):
    def test_claims_of_any_kind(self):
        kinds = ("always", "not always", "left", "end", "voice")
        for value in all_kinds():
            for certificate in ((), (0,), value, ((0,), ("ann",), ("bob",))):
                self.assertIs(accepts(value, certificate), False)
                self.assertIs(accepts((value,), certificate), False)
                self.assertIs(accepts((value, str(GOOD)), certificate), False)
                self.assertIs(accepts((value, str(GOOD), 2), certificate), False)
                self.assertIs(accepts((value, value, value, value), certificate), False)
                for kind in kinds:
                    for claim in ((kind,), (kind, value), (kind, value, 2), (kind, value, value), (kind, value, "bob"),
                                  (kind, value, (0,), (1, 2)), (kind, str(GOOD), value, value), (kind, str(GOOD), value, value, value)):
                        self.assertIs(accepts(claim, certificate), False)

    def test_texts_that_are_none(self):
        for text in NO_TEXTS:
            for rest, certificate in (((1,), ()), ((0,), ()), ((), ((0,), ("ann",), ("bob",))), (((0,), (1, 4)), ()),
                                      (((0,), ((1, 3), (2, 3))), ()), (((0,), ((1, 1),)), ()), (("ann",), (0,)), (("ann",), ())):
                for kind in ("always", "not always", "left", "end", "voice"):
                    self.assertIs(accepts((kind, text) + rest, certificate), False)
        self.assertIs(accepts(("always", GOOD, 2), ()), False)

    def test_nothing_is_changed_and_asked_again_it_is_the_same(self):
        certificate = ((2,), ("ann",), ("bob", "cyd"))
        claim = ("not always", str(BAD))
        for _ in range(3):
            self.assertIs(accepts(claim, certificate), True)
            self.assertIs(accepts(claim, [*certificate]), False)
        self.assertEqual([claim, certificate], [("not always", str(BAD)), ((2,), ("ann",), ("bob", "cyd"))])


class TestExamples(unittest.TestCase):
    def test_the_examples_of_the_document(self):
        self.assertEqual(
            [accepts(("not always", str(BAD)), ((2,), ("ann",), ("bob", "cyd"))), accepts(("always", str(GOOD), 1), ()),
             accepts(("left", str(GOOD), (0,), (1, 2)), ())],
            [True, False, True])


if __name__ == "__main__":
    unittest.main()
