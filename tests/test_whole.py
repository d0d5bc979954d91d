"""The whole program: what stands where, and that equal calls return equal results whatever was asked between them."""

import importlib
import inspect
import random
import unittest

from alwaysagree.agreeing import always_agrees, apart_pairs, days_needed, is_kept, kept_apart
from alwaysagree.books import Book
from alwaysagree.certificates import certify_council, certify_end, certify_left, certify_voice
from alwaysagree.checker import accepts
from alwaysagree.console import Console
from alwaysagree.councils import Council
from alwaysagree.days import after, mean, shares, sources, spread
from alwaysagree.ending import end_shares, end_thought, leaders, settles
from alwaysagree.errors import NoEnd, NotACouncil
from alwaysagree.leaving import farthest, left_after, worst_left, worst_word
from alwaysagree.mending import doubtful, mending, telling_doubt
from alwaysagree.sessions import Session
from alwaysagree.telling import alike, ask, fitting, words_between
from alwaysagree.voicing import reached, voice_word, voices
from tests.kinds import all_kinds
from tests.talks import (
    BAD, DUO, GOOD, GREAT, ONE, RINGS, SLOW, SWAP, drawn_council, drawn_councils, drawn_thoughts, drawn_word, missing_ears,
    named_councils, number, ring, sources_after,
)

# The functions of the interface with their arguments, by their modules.
FUNCTIONS = {
    "days": {"after": "council thoughts word", "shares": "council word", "sources": "council word mind", "spread": "thoughts",
             "mean": "council thoughts weights"},
    "leaving": {"left_after": "council word", "farthest": "council word", "worst_left": "council many",
                "worst_word": "council many"},
    "agreeing": {"always_agrees": "council", "days_needed": "council", "kept_apart": "council",
                 "is_kept": "council word one other", "apart_pairs": "council"},
    "ending": {"settles": "council word", "end_shares": "council word", "end_thought": "council thoughts word",
               "leaders": "council word"},
    "voicing": {"voice_word": "council mind", "voices": "council", "reached": "council mind word"},
    "mending": {"mending": "council offers", "doubtful": "council doubts", "telling_doubt": "council doubts"},
    "telling": {"fitting": "council thoughts later", "words_between": "council thoughts later many", "alike": "council",
                "ask": "council"},
    "checker": {"accepts": "claim certificate"},
    "certificates": {"certify_council": "council", "certify_left": "council word", "certify_end": "council word",
                     "certify_voice": "council mind"},
}
# The classes with the arguments by which they are made, their methods with their arguments, and their properties.
CLASSES = {
    "councils": ("Council", "minds ways", {"hears": "way mind"}, ("minds", "ways")),
    "sessions": ("Session", "council thoughts", {
        "day": "way", "change": "council", "think": "mind thought", "undo": "", "spread": "", "sure": "", "trial": "",
        "tried": "action"}, ("council", "thoughts", "days", "changes")),
    "console": ("Console", "council thoughts", {"say": "line"}, ("said", "told")),
    "books": ("Book", "", {"wish": "wish", "lift": "index", "undo": "", "trial": "", "tried": "action"},
              ("names", "wishes", "changes")),
}


def parameters(function):
    return list(inspect.signature(function).parameters)


class TestInterface(unittest.TestCase):
    def test_each_function_is_defined_in_its_file(self):
        for place, functions in FUNCTIONS.items():
            module = importlib.import_module(f"alwaysagree.{place}")
            for name, arguments in functions.items():
                with self.subTest(name):
                    function = getattr(module, name)
                    self.assertTrue(inspect.isfunction(function))
                    self.assertEqual(function.__module__, module.__name__)
                    self.assertEqual(parameters(function), arguments.split())

    def test_each_class_is_defined_in_its_file_with_its_methods(self):
        for place, (name, arguments, methods, properties) in CLASSES.items():
            module = importlib.import_module(f"alwaysagree.{place}")
            with self.subTest(name):
                cls = getattr(module, name)
                self.assertEqual(cls.__module__, module.__name__)
                self.assertEqual(parameters(cls), arguments.split())
                for method, words in methods.items():
                    self.assertEqual(parameters(vars(cls)[method]), ["self"] + words.split())
                for one in properties:
                    self.assertIsInstance(vars(cls)[one], property)
        self.assertIsInstance(vars(Council)["read"], classmethod)
        self.assertEqual(parameters(Council.read), ["text"])
        for cls, names in ((Council, ("__len__", "__str__", "__eq__")),
                           (Book, ("__setitem__", "__getitem__", "__contains__", "__len__"))):
            for name in names:
                self.assertIn(name, vars(cls))

    def test_the_modules_import_without_one_another(self):
        for place in ("limits", "errors", *CLASSES, *FUNCTIONS):
            self.assertTrue(importlib.import_module(f"alwaysagree.{place}").__doc__)


def questions(council, seed):
    """Functions without arguments that ask about a council all that can be asked, each time with equal arguments."""
    draw = random.Random(seed)
    word = drawn_word(draw, council, draw.randrange(1, 5))
    long = drawn_word(draw, council, 12)
    thoughts = drawn_thoughts(draw, len(council))
    later = after(council, thoughts, word[:1])
    mind = draw.choice(council.minds)
    missing = missing_ears(council)[:3]
    offers = tuple([("ear", *ear) for ear in missing]) + (("strike", 0),)
    lots = ((council.minds[0],), council.minds[-1:])
    same = Council.read(str(council))

    def ended(function, *arguments):
        try:
            return function(*arguments)
        except NoEnd:
            return NoEnd
    found = [lambda: after(same, thoughts, long), lambda: shares(same, word), lambda: sources(same, word, mind),
             lambda: spread(thoughts), lambda: mean(same, thoughts, same.ways[0][0]), lambda: left_after(same, word),
             lambda: farthest(same, word), lambda: worst_left(same, 2), lambda: worst_word(same, 2),
             lambda: always_agrees(same), lambda: days_needed(same), lambda: kept_apart(same), lambda: apart_pairs(same),
             lambda: is_kept(same, word, *lots), lambda: settles(same, word), lambda: ended(end_shares, same, word),
             lambda: ended(end_thought, same, thoughts, word), lambda: ended(leaders, same, word),
             lambda: voice_word(same, mind), lambda: voices(same), lambda: reached(same, mind, long),
             lambda: mending(same, offers), lambda: doubtful(same, tuple(missing)),
             lambda: telling_doubt(same, tuple(missing)), lambda: fitting(same, thoughts, later),
             lambda: words_between(same, thoughts, later, 1), lambda: alike(same), lambda: ask(same),
             lambda: certify_council(same), lambda: certify_left(same, long), lambda: ended(certify_end, same, word),
             lambda: certify_voice(same, mind), lambda: accepts(*certify_council(same)), lambda: str(same),
             lambda: same.hears(0, mind), lambda: said(same, thoughts), lambda: kept_in_a_book(same)]
    return found


def said(council, thoughts):
    """All that a new console answers."""
    console = Console(council, thoughts)
    lines = ["day 0", "thoughts", "spread", "undo", f"think {council.minds[0]} 1/2", "needed", "sure", "voices", "text", "undo"]
    return [console.say(line) for line in lines + ["days", "thoughts"]], console.told


def kept_in_a_book(council):
    """What a new book tells of a council."""
    book = Book()
    book["c"] = council
    return book.names, book["c"], book.tried(lambda held: held.changes), len(book)


class TestEqualCalls(unittest.TestCase):
    def test_equal_calls_return_equal_results_whatever_was_asked_between(self):
        councils = [GOOD, BAD, DUO, ONE, SWAP, RINGS, GREAT, SLOW[0][0]] + drawn_councils(131, 24)
        asked = [one for at, council in enumerate(councils) for one in questions(council, at)]
        told = [one() for one in asked]
        draw = random.Random(131)
        order = list(range(len(asked)))
        for _ in range(2):
            draw.shuffle(order)
            for at in order:
                self.assertEqual(asked[at](), told[at])

    def test_what_is_passed_is_not_changed(self):
        for council in named_councils() + [GREAT]:
            before = (str(council), council.minds, council.ways)
            for one in questions(council, 132):
                one()
            self.assertEqual((str(council), council.minds, council.ways), before)


class TestNotACouncil(unittest.TestCase):
    def test_ahead_of_all_else(self):
        for place, functions in FUNCTIONS.items():
            module = importlib.import_module(f"alwaysagree.{place}")
            for name, arguments in functions.items():
                if arguments.startswith("council"):
                    for value in all_kinds() + [str(GOOD), Book()]:
                        others = [None for _ in arguments.split()[1:]]
                        with self.subTest(name, kind=value.__class__.__name__):
                            with self.assertRaises(NotACouncil) as caught:
                                getattr(module, name)(value, *others)
                            self.assertIs(caught.exception.given, value)
        for cls in (Session, Console):
            for value in all_kinds():
                with self.assertRaises(NotACouncil) as caught:
                    cls(value, None)
                self.assertIs(caught.exception.given, value)


class TestGuarantees(unittest.TestCase):
    def some(self, seed):
        return named_councils() + [GREAT, ring(4)] + drawn_councils(seed, 108)

    def test_agreement_is_told_alike_by_all(self):
        for council in self.some(133):
            told = always_agrees(council)
            self.assertIs(days_needed(council) is not None, told)
            self.assertIs(kept_apart(council) is None, told)
            self.assertEqual(doubtful(council, ()), int(told))
            self.assertEqual(mending(council, ()), ((),) if told else ())
            self.assertEqual(certify_council(council)[0][0], "always" if told else "not always")
            session = Session(council, ((0, 1),) * len(council))
            self.assertIs(session.sure(), told)
            book = Book()
            book["c"] = council
            if told:
                book.wish(("days", "c", days_needed(council)))

    def test_what_is_left_is_below_1_after_the_days_needed(self):
        for council in self.some(134):
            days = days_needed(council)
            if days is not None and len(council.ways) ** days <= 1300 and days <= 12 and len(council) > 1:
                self.assertLess(number(worst_left(council, days)), 1)
                self.assertEqual(worst_left(council, days - 1), (1, 1))
                self.assertEqual(left_after(council, worst_word(council, days)), worst_left(council, days))

    def test_a_spread_shrinks_to_what_is_left_at_most(self):
        draw = random.Random(135)
        for council in self.some(135):
            word, thoughts = drawn_word(draw, council, draw.randrange(13)), drawn_thoughts(draw, len(council))
            most = number(left_after(council, word)) * number(spread(thoughts))
            self.assertLessEqual(number(spread(after(council, thoughts, word))), most)

    def test_a_voice_is_a_leader_of_its_word(self):
        for council in self.some(136):
            for mind in voices(council):
                word = voice_word(council, mind)
                if 1 <= len(word) <= 12:
                    self.assertIs(settles(council, word), True)
                    self.assertIn(mind, leaders(council, word))
                    self.assertEqual(reached(council, mind, word), council.minds)

    def test_sources_of_twelve_days(self):
        draw = random.Random(137)
        for council in self.some(137):
            word = drawn_word(draw, council, 12)
            found = sources_after(council, word)
            for at, mind in enumerate(council.minds):
                self.assertEqual(sources(council, word, mind), tuple([council.minds[one] for one in sorted(found[at])]))


class TestTruth(unittest.TestCase):
    def test_every_object_is_true(self):
        thoughts = ((0, 1),) * 3
        book, session = Book(), Session(GOOD, thoughts)
        for value in (GOOD, ONE, book, session, Console(GOOD, thoughts), book.trial(), session.trial(), NotACouncil(0), NoEnd()):
            self.assertTrue(value)
            self.assertTrue(value == value)
            self.assertFalse(value != value)
            for other in all_kinds():
                if other.__class__.__name__ not in ("EqualsAll", "EqualsNone"):
                    self.assertFalse(value == other)
                    self.assertTrue(value != other)
        draw = random.Random(138)
        council = drawn_council(draw, 1, 1, 0, (1,))
        self.assertTrue(council)


if __name__ == "__main__":
    unittest.main()
