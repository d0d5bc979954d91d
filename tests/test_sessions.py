import random
import unittest

from alwaysagree.agreeing import always_agrees
from alwaysagree.councils import Council
from alwaysagree.days import after, spread
from alwaysagree.errors import (
    InvalidIndex, InvalidName, InvalidThoughts, NotACouncil, NothingToUndo, UnknownName,
)
from alwaysagree.limits import MOST_WEIGHT
from alwaysagree.sessions import Session
from tests.kinds import EqualsAll, EqualsNone, all_kinds, deep, other_kinds
from tests.talks import BAD, DUO, GOOD, GREAT, NAMES, ONE, drawn_council, drawn_thoughts, named_councils
from tests.test_days import NO_FRACTIONS

FIRST = ((0, 1), (6, 1), (12, 1))
NO_WAYS = other_kinds() + [2, 3, -1, -2, 10 ** 79, -(10 ** 79), "", "0", (), (0,), deep(100)]
NO_MINDS = other_kinds() + [0, 1, "", "dan", "Ann", "ann ", "an", (), ("ann",), GOOD, deep(100)]


class Stop(Exception):
    """Ends a block."""


def seen(session):
    """All that can be seen of a session."""
    return (session.council, session.thoughts, session.days, session.changes, session.spread(), session.sure())


class Told:
    """What a session should be: the same, kept a second time."""

    def __init__(self, council, thoughts):
        self.past = [(council, thoughts, 0)]

    def seen(self):
        council, thoughts, days = self.past[-1]
        return (council, thoughts, days, len(self.past) - 1, spread(thoughts), always_agrees(council))

    def day(self, way):
        council, thoughts, days = self.past[-1]
        self.past.append((council, after(council, thoughts, (way,)), days + 1))

    def change(self, council):
        self.past.append((council,) + self.past[-1][1:])

    def think(self, mind, thought):
        council, thoughts, days = self.past[-1]
        thoughts = tuple([thought if one == mind else old for one, old in zip(council.minds, thoughts)])
        self.past.append((council, thoughts, days))

    def undo(self):
        self.past.pop()


def some_deed(draw, session):
    """A deed that the session lets, with its arguments."""
    council = session.council
    deeds = ["day", "day", "change", "think", "undo"] if session.changes else ["day", "change", "think"]
    deed = draw.choice(deeds)
    if deed == "day":
        return deed, (draw.randrange(len(council.ways)),)
    if deed == "change":
        other = drawn_council(draw, len(council), draw.randrange(1, 7), draw.choice((3, 7, 9)), (1, 2, MOST_WEIGHT))
        return deed, (Council(council.minds, other.ways),)
    if deed == "think":
        return deed, (draw.choice(council.minds), drawn_thoughts(draw, 1)[0])
    return deed, ()


class TestDeeds(unittest.TestCase):
    def test_a_new_session(self):
        for council in named_councils() + [GREAT]:
            thoughts = ((1, 2),) * len(council)
            for session in (Session(council, thoughts), Session(thoughts=thoughts, council=council)):
                self.assertIs(session.council, council)
                self.assertEqual(session.thoughts, thoughts)
                self.assertEqual([session.days, session.changes], [0, 0])
                self.assertEqual(session.spread(), (0, 1))
                self.assertIs(session.sure(), always_agrees(council))

    def test_many_deeds(self):
        for seed, council in enumerate(named_councils() + [GREAT]):
            draw = random.Random(seed)
            thoughts = drawn_thoughts(draw, len(council))
            session, told = Session(council, thoughts), Told(council, thoughts)
            for _ in range(60):
                deed, arguments = some_deed(draw, session)
                self.assertIsNone(getattr(session, deed)(*arguments))
                getattr(told, deed)(*arguments)
                self.assertEqual(seen(session), told.seen())
            while session.changes > 0:
                session.undo()
                told.undo()
                self.assertEqual(seen(session), told.seen())
            self.assertEqual([session.council, session.thoughts, session.days], [council, thoughts, 0])

    def test_by_name(self):
        session = Session(BAD, FIRST)
        self.assertIsNone(session.day(way=0))
        self.assertIsNone(session.change(council=GOOD))
        self.assertIsNone(session.think(thought=(9, 1), mind="ann"))
        self.assertEqual(seen(session), (GOOD, ((9, 1), (6, 1), (9, 1)), 1, 3, (3, 1), True))

    def test_the_kinds_of_what_is_told(self):
        session = Session(BAD, FIRST)
        for _ in range(2):
            self.assertEqual([value.__class__ for value in seen(session)], [Council, tuple, int, int, tuple, bool])
            session.day(1)

    def test_a_day_goes_by_the_council_of_the_moment(self):
        session = Session(BAD, FIRST)
        turned = Council(BAD.minds, BAD.ways[::-1])
        session.change(turned)
        session.day(0)
        self.assertEqual(session.thoughts, FIRST)
        session.day(2)
        self.assertEqual(session.thoughts, after(BAD, FIRST, (0,)))
        session.undo()
        session.undo()
        session.undo()
        self.assertEqual([session.council, session.thoughts, session.days], [BAD, FIRST, 0])

    def test_a_change_to_fewer_or_more_ways(self):
        session = Session(BAD, FIRST)
        session.day(2)
        session.change(Council(BAD.minds, BAD.ways[:1]))
        with self.assertRaises(InvalidIndex):
            session.day(1)
        session.change(Council(BAD.minds, BAD.ways * 2))
        session.day(5)
        self.assertEqual([session.days, session.changes], [2, 4])

    def test_changes_that_change_nothing_count(self):
        session = Session(BAD, FIRST)
        session.change(BAD)
        session.think("ann", (0, 1))
        session.day(2)
        self.assertEqual([session.thoughts, session.days, session.changes], [FIRST, 1, 3])
        session.undo()
        self.assertEqual([session.thoughts, session.days, session.changes], [FIRST, 0, 2])

    def test_thoughts_of_one_mind(self):
        session = Session(ONE, ((7, 3),))
        session.day(1)
        session.think("x", (-1, 10 ** 30))
        session.day(0)
        self.assertEqual(seen(session), (ONE, ((-1, 10 ** 30),), 2, 3, (0, 1), True))

    def test_twelve_days_with_the_greatest_weights(self):
        thoughts = drawn_thoughts(random.Random(5), 6)
        session = Session(GREAT, thoughts)
        for way in (0, 1, 2, 3, 4, 5) * 2:
            session.day(way)
        self.assertEqual(session.thoughts, after(GREAT, thoughts, (0, 1, 2, 3, 4, 5) * 2))
        self.assertEqual(session.spread(), spread(session.thoughts))

    def test_more_than_twelve_days(self):
        session = Session(DUO, ((0, 1), (9, 1)))
        for _ in range(300):
            session.day(0)
        self.assertEqual([session.days, session.changes, session.spread()], [300, 300, (9, 4 ** 300)])
        for _ in range(300):
            session.undo()
        self.assertEqual([session.days, session.changes, session.thoughts], [0, 0, ((0, 1), (9, 1))])

    def test_properties_cannot_be_set(self):
        session = Session(BAD, FIRST)
        for name in ("council", "thoughts", "days", "changes"):
            with self.assertRaises(AttributeError):
                setattr(session, name, 0)


class TestErrors(unittest.TestCase):
    def refused(self, session, error, kept, deed, *arguments, **named):
        """That a deed raises this error, and then nothing has changed."""
        before = seen(session)
        with self.assertRaises(error) as caught:
            deed(*arguments, **named)
        self.assertIs(caught.exception.__class__, error)
        if error is InvalidThoughts:
            self.assertEqual(caught.exception.index, kept)
        elif error is InvalidName:
            self.assertEqual(caught.exception.given, kept)
        elif error is not NothingToUndo:
            self.assertIs(caught.exception.given, kept)
        self.assertEqual(seen(session), before)

    def sessions(self):
        """A new session, and one behind some changes."""
        later = Session(BAD, FIRST)
        later.day(2)
        later.change(GOOD)
        later.think("cyd", (1, 3))
        return [Session(GOOD, FIRST), later]

    def test_ways_that_are_none(self):
        for session in self.sessions():
            for value in NO_WAYS:
                with self.subTest(kind=value.__class__.__name__):
                    self.refused(session, InvalidIndex, value, session.day, value)
                    self.refused(session, InvalidIndex, value, session.day, way=value)

    def test_councils_that_are_none(self):
        for session in self.sessions():
            for value in all_kinds() + [str(GOOD), Council, (GOOD,), [GOOD], session, GOOD.ways]:
                with self.subTest(kind=value.__class__.__name__):
                    self.refused(session, NotACouncil, value, session.change, value)
                    self.refused(session, NotACouncil, value, session.change, council=value)

    def test_councils_with_other_minds(self):
        way = ((1, 0, 0), (0, 1, 0), (0, 0, 1))
        for session in self.sessions():
            for minds in (("bob", "ann", "cyd"), ("ann", "cyd", "bob"), ("ann", "bob", "cyd1"), ("a", "b", "c")):
                self.refused(session, InvalidName, minds, session.change, Council(minds, (way,)))
                self.refused(session, InvalidName, minds, session.change, council=Council(minds, (way,)))
            for council in (DUO, ONE, GREAT, Council(NAMES[:3], (way,)), Council(("ann",), (((1,),),))):
                self.refused(session, InvalidName, council.minds, session.change, council)

    def test_minds_that_are_none(self):
        for session in self.sessions():
            for value in NO_MINDS:
                for thought in ((1, 2), None, (2, 4), EqualsAll()):
                    with self.subTest(kind=value.__class__.__name__):
                        self.refused(session, UnknownName, value, session.think, value, thought)
                        self.refused(session, UnknownName, value, session.think, thought=thought, mind=value)

    def test_thoughts_that_are_no_fraction(self):
        for session in self.sessions():
            for value in NO_FRACTIONS + [EqualsNone(), FIRST, FIRST[:2]]:
                for mind in session.council.minds:
                    with self.subTest(kind=value.__class__.__name__):
                        self.refused(session, InvalidThoughts, 0, session.think, mind, value)
                        self.refused(session, InvalidThoughts, 0, session.think, thought=value, mind=mind)

    def test_nothing_to_undo(self):
        session = Session(BAD, FIRST)
        self.refused(session, NothingToUndo, None, session.undo)
        session.day(0)
        session.undo()
        self.refused(session, NothingToUndo, None, session.undo)
        with session.trial():
            session.day(0)
            session.undo()
            self.refused(session, NothingToUndo, None, session.undo)

    def test_a_session_that_is_refused(self):
        for value in all_kinds() + [str(BAD)]:
            for thoughts in (FIRST, None, ()):
                with self.assertRaises(NotACouncil) as caught:
                    Session(value, thoughts)
                self.assertIs(caught.exception.given, value)


class TestTrial(unittest.TestCase):
    def session(self):
        session = Session(BAD, FIRST)
        session.day(0)
        session.think("bob", (1, 2))
        return session

    def deeds(self, session):
        session.change(GOOD)
        session.day(1)
        session.think("ann", (5, 1))
        session.undo()

    def test_as_it_was_when_the_block_began(self):
        session = self.session()
        before = seen(session)
        with session.trial() as held:
            self.assertIs(held, session)
            self.assertEqual(seen(session), before)
            self.deeds(session)
            self.assertNotEqual(seen(session), before)
        self.assertEqual(seen(session), before)
        session.undo()
        session.undo()
        self.assertEqual([session.council, session.thoughts, session.days, session.changes], [BAD, FIRST, 0, 0])

    def test_changes_from_before_the_block_that_were_taken_back(self):
        session = self.session()
        before = seen(session)
        with session.trial():
            while session.changes > 0:
                session.undo()
            self.assertEqual(session.thoughts, FIRST)
        self.assertEqual(seen(session), before)
        with session.trial():
            session.undo()
            session.undo()
            session.think("ann", (8, 1))
            session.day(2)
            session.day(2)
        self.assertEqual(seen(session), before)
        session.undo()
        self.assertEqual(session.thoughts, after(BAD, FIRST, (0,)))
        session.undo()
        self.assertEqual(session.thoughts, FIRST)

    def test_exceptions_are_passed_on(self):
        for error in (Stop, KeyboardInterrupt, StopIteration, GeneratorExit, InvalidIndex):
            session = self.session()
            before, raised = seen(session), error(0)
            with self.assertRaises(error) as caught:
                with session.trial():
                    self.deeds(session)
                    raise raised
            self.assertIs(caught.exception, raised)
            self.assertEqual(seen(session), before)

    def test_an_error_of_the_session_itself(self):
        session = self.session()
        before = seen(session)
        with self.assertRaises(InvalidIndex):
            with session.trial():
                session.day(1)
                session.day(3)
        self.assertEqual(seen(session), before)

    def test_left_by_return_break_and_continue(self):
        session = self.session()
        before = seen(session)

        def returned():
            with session.trial():
                session.day(1)
                return session.days
        self.assertEqual(returned(), 2)
        self.assertEqual(seen(session), before)
        for turn in range(3):
            with session.trial():
                session.day(1)
                if turn == 0:
                    continue
                break
        self.assertEqual(seen(session), before)

    def test_trials_within_trials(self):
        session = self.session()
        before = seen(session)
        with session.trial():
            session.day(1)
            middle = seen(session)
            with session.trial():
                session.undo()
                session.undo()
                with self.assertRaises(Stop):
                    with session.trial():
                        session.undo()
                        raise Stop
                self.assertEqual(session.changes, 1)
            self.assertEqual(seen(session), middle)
            with session.trial() as held, session.trial():
                held.change(GOOD)
            self.assertEqual(seen(session), middle)
        self.assertEqual(seen(session), before)

    def test_a_call_alone_changes_nothing(self):
        session = self.session()
        before = seen(session)
        trial = session.trial()
        self.assertEqual(seen(session), before)
        session.day(1)
        later = seen(session)
        # The block begins here, not where `trial` was called.
        with trial:
            session.day(1)
        self.assertEqual(seen(session), later)
        with trial as held:
            self.assertIs(held, session)
            session.undo()
            with trial:
                session.undo()
                with trial:
                    session.day(0)
                self.assertEqual(session.changes, 1)
            self.assertEqual(session.changes, 2)
        self.assertEqual(seen(session), later)

    def test_the_session_goes_on_behind_the_block(self):
        session, other = self.session(), self.session()
        with session.trial():
            self.deeds(session)
        for one in (session, other):
            self.deeds(one)
        self.assertEqual(seen(session), seen(other))

    def test_each_trial_is_one_of_its_own(self):
        one, other = self.session(), self.session()
        with one.trial(), other.trial():
            one.day(1)
            other.undo()
            with one.trial():
                other.undo()
        self.assertEqual(seen(one), seen(other))
        self.assertEqual(seen(one), seen(self.session()))


class TestTried(unittest.TestCase):
    def session(self):
        session = Session(BAD, FIRST)
        session.day(0)
        return session

    def test_what_the_function_returns(self):
        session = self.session()
        before = seen(session)
        passed = []

        def action(held):
            passed.append(held)
            held.day(1)
            held.undo()
            held.undo()
            held.change(GOOD)
            return passed
        self.assertIs(session.tried(action), passed)
        self.assertIs(passed[0], session)
        self.assertEqual(len(passed), 1)
        self.assertEqual(seen(session), before)
        self.assertIsNone(session.tried(action=lambda held: held.day(0)))
        self.assertEqual(session.tried(lambda held: (held.day(1), held.thoughts))[1], after(BAD, FIRST, (0, 1)))
        self.assertEqual(seen(session), before)

    def test_exceptions_are_passed_on(self):
        session = self.session()
        before = seen(session)

        def action(held):
            held.undo()
            held.undo()
        with self.assertRaises(NothingToUndo):
            session.tried(action)
        self.assertEqual(seen(session), before)

    def test_tried_within_tried(self):
        session = self.session()
        before = seen(session)

        def action(held):
            held.day(1)
            days = held.tried(lambda again: (again.day(0), again.days)[1])
            return days, held.days
        self.assertEqual(session.tried(action), (3, 2))
        self.assertEqual(seen(session), before)


class TestTwoSessions(unittest.TestCase):
    def test_two_sessions_never_change_one_another(self):
        one, other = Session(BAD, FIRST), Session(BAD, FIRST)
        one.day(0)
        self.assertEqual(seen(other), seen(Session(BAD, FIRST)))
        other.change(GOOD)
        other.undo()
        other.think("ann", (7, 1))
        self.assertEqual([one.thoughts, one.changes], [after(BAD, FIRST, (0,)), 1])
        self.assertEqual([other.thoughts, other.changes], [((7, 1),) + FIRST[1:], 1])
        self.assertEqual([str(BAD), FIRST], [str(Council.read(str(BAD))), ((0, 1), (6, 1), (12, 1))])

    def test_a_session_is_true_and_equal_to_itself_alone(self):
        one, other = Session(BAD, FIRST), Session(BAD, FIRST)
        self.assertIs(bool(one), True)
        self.assertTrue(one == one)
        self.assertFalse(one != one)
        self.assertFalse(one == other)
        self.assertTrue(one != other)
        self.assertNotIn(one, [None, 0, BAD, other])


class TestExamples(unittest.TestCase):
    def test_the_examples_of_the_document(self):
        session = Session(BAD, FIRST)
        self.assertEqual(
            [session.day(0), session.thoughts, session.sure(), session.change(GOOD), session.sure(),
             session.think("ann", (9, 1)), session.spread(), session.days, session.undo(), session.changes],
            [None, ((3, 1), (6, 1), (9, 1)), False, None, True, None, (3, 1), 1, None, 2])
        with self.assertRaises(InvalidIndex) as caught:
            session.day(2)
        self.assertEqual(caught.exception.given, 2)


if __name__ == "__main__":
    unittest.main()
