"""The errors that parameters with the same names raise wherever they occur, and their order."""

import inspect
import itertools
import unittest

from alwaysagree.agreeing import always_agrees, apart_pairs, days_needed, is_kept, kept_apart
from alwaysagree.certificates import certify_council, certify_end, certify_left, certify_voice
from alwaysagree.console import Console
from alwaysagree.councils import Council
from alwaysagree.days import after, mean, shares, sources, spread
from alwaysagree.ending import end_shares, end_thought, leaders, settles
from alwaysagree.errors import (
    InvalidName, InvalidNumber, InvalidThoughts, InvalidWord, NoDays, NotACouncil, TooMany, UnknownName,
)
from alwaysagree.leaving import farthest, left_after, worst_left, worst_word
from alwaysagree.mending import doubtful, mending, telling_doubt
from alwaysagree.sessions import Session
from alwaysagree.telling import alike, ask, fitting, words_between
from alwaysagree.voicing import reached, voice_word, voices
from tests.kinds import EqualsAll, EqualsNone, all_kinds, deep, other_kinds
from tests.talks import BAD
from tests.test_days import NO_FRACTIONS
from tests.test_leaving import NO_NUMBERS_OF_DAYS
from tests.test_mending import DOUBTS, OFFERS, wrong_doubts, wrong_offers

# Each function with the parameters of the document, in order; `days` is a word of one day or more.
SIGNATURES = {
    after: ("council", "thoughts", "word"),
    shares: ("council", "word"),
    sources: ("council", "word", "mind"),
    mean: ("council", "thoughts", "weights"),
    left_after: ("council", "word"),
    farthest: ("council", "word"),
    worst_left: ("council", "many"),
    worst_word: ("council", "many"),
    always_agrees: ("council",),
    days_needed: ("council",),
    kept_apart: ("council",),
    apart_pairs: ("council",),
    is_kept: ("council", "days", "one", "other"),
    settles: ("council", "days"),
    end_shares: ("council", "days"),
    end_thought: ("council", "thoughts", "days"),
    leaders: ("council", "days"),
    voice_word: ("council", "mind"),
    voices: ("council",),
    reached: ("council", "mind", "word"),
    mending: ("council", "offers"),
    doubtful: ("council", "doubts"),
    telling_doubt: ("council", "doubts"),
    fitting: ("council", "thoughts", "later"),
    words_between: ("council", "thoughts", "later", "many"),
    alike: ("council",),
    ask: ("council",),
    certify_council: ("council",),
    certify_left: ("council", "word"),
    certify_end: ("council", "days"),
    certify_voice: ("council", "mind"),
}
# What these make is equal to itself alone.
MAKERS = {Session: ("council", "thoughts"), Console: ("council", "thoughts")}
# No index of a way of BAD, wherever it stands.
NO_INDEXES = other_kinds() + [3, 4, -1, -3, 10 ** 79, -(10 ** 79), "", "0", (), (0,), deep(99)]
RIGHT = {
    "council": [BAD, Council.read(str(BAD))],
    "thoughts": [((0, 1), (6, 1), (12, 1)), ((-1, 2), (10 ** 29, 3), (0, 1))],
    "word": [(), (0,), (2, 1, 0), (0,) * 12],
    "days": [(0,), (2, 1), (1,) * 12],
    "mind": ["ann", "cyd"],
    "weights": [(0, 0, 1), (10 ** 9, 1, 2)],
    "many": [0, 1, 6],
    "one": [("ann",), ("cyd", "bob")],
    "other": [("bob",), ("ann", "cyd")],
    "later": [((3, 1), (6, 1), (9, 1)), ((-1, 2), (10 ** 29, 3), (0, 1))],
    "offers": [(), (("strike", 2),), OFFERS],
    "doubts": [(), DOUBTS[:2], DOUBTS],
}


def wrong_words():
    found = [(value, InvalidWord, None) for value in other_kinds() + [0, 1, "", "0", [0, 1], [], range(2)]]
    for value in NO_INDEXES:
        found += [((value,), InvalidWord, 0), ((0, value), InvalidWord, 1), ((2,) * 11 + (value,), InvalidWord, 11)]
        found += [((value, 0, value), InvalidWord, 0), ((0, 1, value, 3), InvalidWord, 2)]
        # The thirteenth is wrong, whatever it is; one before it is told first.
        found += [((0,) * 12 + (value,), InvalidWord, 12), ((value,) + (0,) * 13, InvalidWord, 0)]
        found += [((0,) * 12 + (1, value), InvalidWord, 12)]
    return found + [((0,) * many, InvalidWord, 12) for many in (13, 14, 100)]


def wrong_thoughts():
    right = RIGHT["thoughts"][1]
    found = [(value, InvalidThoughts, None) for value in other_kinds() + [0, "", "abc", list(right), iter(right)]]
    for value in NO_FRACTIONS:
        found += [(right[:at] + (value,) + right[at + 1:], InvalidThoughts, at) for at in range(3)]
        found += [((right[0], value, value), InvalidThoughts, 1), ((value, right[1], (2, 2)), InvalidThoughts, 0)]
        # How many there are is asked ahead of what they are.
        found += [((value,), InvalidThoughts, None), ((value,) * 2, InvalidThoughts, None)]
        found += [(right + (value,), InvalidThoughts, None), ((value,) + right, InvalidThoughts, None)]
    return found + [((), InvalidThoughts, None), (right[:2], InvalidThoughts, None), (right + right[:1], InvalidThoughts, None)]


def wrong_lots():
    found = [(value, InvalidName, value) for value in other_kinds() + [0, "", "ann", (), ["ann"], {"ann"}]]
    found += [(value, InvalidName, value) for value in (("ann", "ann"), ("zed", "bob", "zed"), (None, None), ([], "ann", []))]
    for value in all_kinds() + ["zed", "Ann"]:
        if value.__class__ is not str or value not in BAD.minds:
            found += [((value,), UnknownName, value), (("ann", value, "zoe"), UnknownName, value)]
    return found


def wrong_minds():
    return other_kinds() + [0, 1, "", "dan", "Ann", "ann ", "an", (), ("ann",), BAD, deep(100)]


# Triples of a wrong value, the error that it raises, and what this error keeps (for NoDays nothing).
WRONG = {
    "council": [(value, NotACouncil, value) for value in all_kinds() + [str(BAD), Council, (BAD,), [BAD], BAD.ways]],
    "thoughts": wrong_thoughts(),
    "word": wrong_words(),
    "days": wrong_words() + [((), NoDays, None)],
    "mind": [(value, UnknownName, value) for value in wrong_minds()],
    "weights": [(value, InvalidNumber, value) for value in (None, [1, 1, 1], (1, 1), (0, 0, 0), (1, 1, True), (1, -1, 1))],
    "many": [(value, InvalidNumber, value) for value in NO_NUMBERS_OF_DAYS] + [(7, TooMany, 3 ** 7), (12, TooMany, 3 ** 12)],
    "one": wrong_lots(),
    "other": wrong_lots(),
    "later": wrong_thoughts(),
    "offers": wrong_offers(),
    "doubts": wrong_doubts(),
}
# Some of the wrong values, for arguments behind the first wrong one.
SOME = {
    "council": [None, EqualsAll()],
    "thoughts": [None, ((0, 1), (1, 2), (2, 4)), EqualsNone()],
    "word": [None, (0, 3), (0,) * 13],
    "days": [(), [0], (True,)],
    "mind": [None, "dan", EqualsNone()],
    "weights": [None, (0, 0, 0)],
    "many": [-1, True, 12],
    "one": [(), ("zed",)],
    "other": [(), ("zed",)],
    "later": [None, ((0, 1), (1, 2), (2, 4))],
    "offers": [None, (("strike", 3),)],
    "doubts": [None, ((2, "ann", "ann"),)],
}


class TestArguments(unittest.TestCase):
    def ways_to_call(self, ask, arguments):
        names = tuple(inspect.signature(ask).parameters)
        named = dict(zip(names, arguments))
        turned = dict(reversed(list(named.items())))
        yield lambda: ask(*arguments)
        yield lambda: ask(**named)
        yield lambda: ask(**turned)
        yield lambda: ask(arguments[0], **{name: named[name] for name in names[1:]})

    def refused(self, ask, arguments, error, kept):
        for call in self.ways_to_call(ask, arguments):
            with self.assertRaises(error) as caught:
                call()
            self.assertIs(caught.exception.__class__, error)
            if hasattr(caught.exception, "index"):
                self.assertEqual([caught.exception.index, caught.exception.index.__class__], [kept, kept.__class__])
            elif error is TooMany:
                self.assertEqual(caught.exception.given, kept)
            elif error is not NoDays:
                self.assertIs(caught.exception.given, kept)

    def test_the_names_of_the_parameters(self):
        for ask, names in {**SIGNATURES, **MAKERS}.items():
            found = inspect.signature(ask).parameters.values()
            self.assertEqual([one.name for one in found], [name.replace("days", "word") for name in names])
            self.assertTrue(all([one.default is one.empty for one in found]))
        self.assertEqual(list(inspect.signature(spread).parameters), ["thoughts"])

    def test_right_arguments_by_position_and_by_name(self):
        for ask, names in SIGNATURES.items():
            for arguments in itertools.product(*[RIGHT[name] for name in names]):
                with self.subTest(ask.__name__, arguments=arguments):
                    told = [call() for call in self.ways_to_call(ask, arguments)]
                    self.assertEqual(told, told[:1] * 4)

    def test_each_wrong_value(self):
        for ask, names in {**SIGNATURES, **MAKERS}.items():
            right = tuple([RIGHT[name][-1] for name in names])
            for at, name in enumerate(names):
                for value, error, kept in WRONG[name]:
                    with self.subTest(ask.__name__, name=name, kind=value.__class__.__name__):
                        self.refused(ask, right[:at] + (value,) + right[at + 1:], error, kept)

    def test_the_first_of_several_wrong_values(self):
        for ask, names in {**SIGNATURES, **MAKERS}.items():
            right = tuple([RIGHT[name][0] for name in names])
            for at, name in enumerate(names[:-1]):
                behind = list(itertools.product(*[SOME[other] + RIGHT[other][:1] for other in names[at + 1:]]))
                for value, error, kept in WRONG[name][::3] + WRONG[name][-1:]:
                    for rest in behind:
                        with self.subTest(ask.__name__, name=name, kind=value.__class__.__name__):
                            self.refused(ask, right[:at] + (value,) + rest, error, kept)

    def test_nothing_is_changed(self):
        text = str(BAD)
        for ask, names in SIGNATURES.items():
            arguments = tuple([RIGHT[name][-1] for name in names])
            before = repr(arguments[1:])
            self.assertEqual(ask(*arguments), ask(*arguments))
            self.assertEqual(repr(arguments[1:]), before)
        self.assertEqual(str(BAD), text)


if __name__ == "__main__":
    unittest.main()
