import random
import unittest

from alwaysagree.agreeing import always_agrees, days_needed
from alwaysagree.books import Book
from alwaysagree.councils import Council
from alwaysagree.ending import settles
from alwaysagree.errors import (
    Broken, InvalidIndex, InvalidName, InvalidWish, NotACouncil, NothingToUndo, UnknownName,
)
from alwaysagree.voicing import voices
from tests.kinds import EqualsAll, all_kinds, deep, other_kinds
from tests.talks import BAD, DUO, GOOD, GREAT, ONE, RINGS, SLOW, SWAP, drawn_councils, named_councils, ring

NO_NAMES = other_kinds() + [0, 1, -1, "", "0", "0a", "A", "Ann", "a b", "good ", " good", "good\n", "abcdefghi", "a-b", (),
                            ("good",), ["good"], deep(100)]
NO_INDEXES = other_kinds() + [2, 3, -1, -2, 10 ** 79, -(10 ** 79), "", "0", (), (0,), deep(100)]
NO_NUMBERS = other_kinds() + [-1, -2, -(10 ** 79), "", "0", (), (0,), deep(98)]


class Stop(Exception):
    """Ends a block."""


def no_wishes():
    """Values that have none of the forms of wishes."""
    found = all_kinds() + ["always", "good", ("always",), ("days",), ("days", "good"), ("way", "good"), ("voice", "good")]
    found += [("always", "good", 0), ("always", "good", "bob"), ("days", "good", 2, 2), ("way", "good", 0, 0)]
    found += [("voice", "good", "bob", "ann"), ("voice", "good", "bob", 0), ["always", "good"], ["days", "good", 2]]
    found += [("Always", "good"), ("always ", "good"), ("", "good"), ("never", "good"), ("day", "good", 2), ("ways", "good", 0)]
    found += [("voices", "good", "bob"), ("good", "always"), ("days", 2, "good"), ("voice", "good", 0), ("days", "good", "2")]
    found += [("way", "good", "bob"), (("always", "good"),), ("not always", "good"), ("end", "good", 0), ("left", "good", 0)]
    found += [(value, "good") for value in other_kinds()] + [(value, "good", 2) for value in other_kinds()]
    for name in NO_NAMES:
        found += [("always", name), ("days", name, 2), ("way", name, 0), ("voice", name, "bob"), ("voice", "good", name)]
    for value in NO_NUMBERS:
        found += [("days", "good", value), ("way", "good", value)]
    return found


def seen(book):
    """All that can be seen of a book."""
    return (book.names, [book[name] for name in book.names], book.wishes, book.changes, len(book))


def some_book():
    book = Book()
    book["good"] = GOOD
    book["bad"] = BAD
    book.wish(("always", "good"))
    book.wish(("voice", "bad", "bob"))
    return book


def holds(council, wish):
    """Whether a wish holds for its council, by the other functions."""
    if wish[0] == "always":
        return always_agrees(council)
    if wish[0] == "days":
        return always_agrees(council) and days_needed(council) <= wish[2]
    if wish[0] == "way":
        return wish[2] < len(council.ways) and settles(council, (wish[2],))
    return wish[2] in voices(council)


class Told:
    """What a book should be: the same, kept a second time."""

    def __init__(self):
        self.past = [({}, ())]

    def seen(self):
        councils, wishes = self.past[-1]
        return (tuple(sorted(councils)), [councils[name] for name in sorted(councils)], wishes, len(self.past) - 1, len(councils))

    def go_on(self, councils, wishes):
        """The index of the first wish that does not hold; None if there is none, and then the book goes on with these."""
        for at, wish in enumerate(wishes):
            if not holds(councils[wish[1]], wish):
                return at
        self.past.append((councils, wishes))
        return None


class TestCouncils(unittest.TestCase):
    def test_a_new_book(self):
        book = Book()
        self.assertEqual(seen(book), ((), [], (), 0, 0))
        self.assertIs(bool(book), True)
        self.assertNotIn("good", book)

    def test_councils_under_names(self):
        book = Book()
        names = ("b", "a1", "abcdefgh", "z", "a")
        for at, (name, council) in enumerate(zip(names, named_councils())):
            book[name] = council
            self.assertIs(book[name], council)
            self.assertIn(name, book)
            self.assertEqual([len(book), book.changes], [at + 1] * 2)
        self.assertEqual(book.names, ("a", "a1", "abcdefgh", "b", "z"))
        self.assertIs(bool(book), True)

    def test_a_council_in_the_place_of_another_one(self):
        book = Book()
        book["c"] = BAD
        book["c"] = GOOD
        self.assertEqual([book.names, len(book), book.changes], [("c",), 1, 2])
        self.assertIs(book["c"], GOOD)
        book.undo()
        self.assertIs(book["c"], BAD)
        book.undo()
        self.assertNotIn("c", book)

    def test_one_council_under_two_names(self):
        book = Book()
        book["a"] = GOOD
        book["b"] = GOOD
        self.assertEqual([book["a"] == book["b"], len(book)], [True, 2])

    def test_names_that_are_none(self):
        book = some_book()
        before = seen(book)
        for name in NO_NAMES:
            for council in (GOOD, None, EqualsAll()):
                with self.subTest(kind=name.__class__.__name__):
                    with self.assertRaises(InvalidName) as caught:
                        book[name] = council
                    self.assertIs(caught.exception.given, name)
        self.assertEqual(seen(book), before)

    def test_councils_that_are_none(self):
        book = some_book()
        before = seen(book)
        for value in all_kinds() + [str(GOOD), Council, (GOOD,), book]:
            for name in ("good", "new"):
                with self.subTest(kind=value.__class__.__name__):
                    with self.assertRaises(NotACouncil) as caught:
                        book[name] = value
                    self.assertIs(caught.exception.given, value)
        self.assertEqual(seen(book), before)

    def test_a_book_is_not_iterated_over(self):
        with self.assertRaises(TypeError):
            list(some_book())

    def test_any_value_as_a_name_that_is_looked_for(self):
        book = some_book()
        before = seen(book)
        for value in NO_NAMES + ["goo", "goods", "new", GOOD, book]:
            with self.subTest(kind=value.__class__.__name__):
                self.assertIs(value in book, False)
                with self.assertRaises(UnknownName) as caught:
                    book[value]
                self.assertIs(caught.exception.given, value)
        self.assertEqual(["good" in book, "bad" in book], [True, True])
        self.assertEqual(seen(book), before)


class TestWishes(unittest.TestCase):
    def refused(self, book, error, kept, deed):
        """That a deed raises this error, and then nothing is different."""
        before = seen(book)
        with self.assertRaises(error) as caught:
            deed()
        self.assertIs(caught.exception.__class__, error)
        if error is Broken:
            self.assertEqual([caught.exception.index, caught.exception.index.__class__], [kept, int])
        else:
            self.assertIs(caught.exception.given, kept)
        self.assertEqual(seen(book), before)

    def check(self, council, wish, expected):
        """That a wish over this council, under the name `c`, is taken or broken."""
        book = Book()
        book["c"] = council
        book.wish(("way", "c", 0)) if settles(council, (0,)) else None
        many = len(book.wishes)
        if expected:
            self.assertIsNone(book.wish(wish))
            self.assertIs(book.wishes[many], wish)
            self.assertEqual([len(book.wishes), book.changes], [many + 1, many + 2])
        else:
            self.refused(book, Broken, many, lambda: book.wish(wish))

    def test_always(self):
        for council in named_councils() + drawn_councils(101, 72):
            self.check(council, ("always", "c"), always_agrees(council))

    def test_days(self):
        for council, days in list(SLOW) + [(GOOD, 2), (DUO, 1), (ONE, 0)]:
            for many in (0, 1, days - 1, days, days + 1, 10 ** 79):
                if many >= 0:
                    self.check(council, ("days", "c", many), many >= days)
        for council in (BAD, SWAP, RINGS):
            for many in (0, 1, 301, 10 ** 79):
                self.check(council, ("days", "c", many), False)

    def test_way(self):
        for council in named_councils() + [GREAT] + drawn_councils(102, 72):
            for at in range(8):
                self.check(council, ("way", "c", at), at < len(council.ways) and settles(council, (at,)))
            self.check(council, ("way", "c", 10 ** 79), False)
        self.check(BAD, ("way", "c", 2), False)
        self.check(BAD, ("way", "c", 1), True)

    def test_voice(self):
        for council in named_councils() + [GREAT, ring(6)] + drawn_councils(103, 72):
            for mind in council.minds:
                self.check(council, ("voice", "c", mind), mind in voices(council))
            self.check(council, ("voice", "c", "nobody"), False)
        self.check(GOOD, ("voice", "c", "ann"), False)
        self.check(GOOD, ("voice", "c", "bo"), False)

    def test_wishes_of_no_form(self):
        book = some_book()
        for wish in no_wishes():
            for call in (lambda: book.wish(wish), lambda: book.wish(wish=wish)):
                with self.subTest(kind=wish.__class__.__name__):
                    self.refused(book, InvalidWish, wish, call)

    def test_names_that_the_book_does_not_have(self):
        book = some_book()
        for name in ("goo", "new", "a", "abcdefgh"):
            for wish in (("always", name), ("days", name, 0), ("way", name, 99), ("voice", name, "bob")):
                self.refused(book, UnknownName, wish[1], lambda: book.wish(wish))
        # What has none of the forms is told ahead of the name.
        self.refused(book, InvalidWish, ("days", "new", -1), lambda: book.wish(("days", "new", -1)))

    def test_the_first_wish_that_does_not_hold(self):
        book = some_book()
        book.wish(("days", "good", 3))
        book.wish(("way", "good", 1))
        self.refused(book, Broken, 4, lambda: book.wish(("days", "good", 1)))
        self.refused(book, Broken, 0, lambda: book.__setitem__("good", BAD))
        self.refused(book, Broken, 1, lambda: book.__setitem__("bad", SWAP))
        self.refused(book, Broken, 1, lambda: book.__setitem__("bad", DUO.__class__(("bob", "x"), (((0, 1), (0, 1)),))))
        self.refused(book, Broken, 2, lambda: book.__setitem__("good", SLOW[0][0]))
        one_way = Council(GOOD.minds, GOOD.ways[:1])
        self.refused(book, Broken, 3, lambda: book.__setitem__("good", one_way))
        book.lift(3)
        book["good"] = one_way
        self.assertIs(book["good"], one_way)
        self.refused(book, InvalidName, "Good", lambda: book.__setitem__("Good", BAD))
        self.refused(book, NotACouncil, None, lambda: book.__setitem__("good", None))

    def test_the_same_wish_twice(self):
        book = some_book()
        book.wish(("always", "good"))
        self.assertEqual(book.wishes, (("always", "good"), ("voice", "bad", "bob"), ("always", "good")))
        self.refused(book, Broken, 0, lambda: book.__setitem__("good", BAD))
        book.lift(0)
        self.refused(book, Broken, 1, lambda: book.__setitem__("good", BAD))
        book.lift(index=1)
        book["good"] = BAD

    def test_wishes_that_are_lifted(self):
        book = some_book()
        for index in NO_INDEXES:
            for call in (lambda: book.lift(index), lambda: book.lift(index=index)):
                with self.subTest(kind=index.__class__.__name__):
                    self.refused(book, InvalidIndex, index, call)
        self.assertIsNone(book.lift(0))
        self.assertEqual(book.wishes, (("voice", "bad", "bob"),))
        self.refused(book, InvalidIndex, 1, lambda: book.lift(1))
        self.assertIsNone(book.lift(0))
        self.refused(book, InvalidIndex, 0, lambda: book.lift(0))
        self.assertEqual(book.wishes, ())


class TestUndo(unittest.TestCase):
    def test_each_kind_of_change(self):
        book = Book()
        steps = [seen(book)]
        for deed in (lambda: book.__setitem__("good", GOOD), lambda: book.wish(("always", "good")), lambda: book.lift(0),
                     lambda: book.__setitem__("good", BAD), lambda: book.__setitem__("good", BAD),
                     lambda: book.__setitem__("a", ONE), lambda: book.wish(("voice", "a", "x"))):
            self.assertIsNone(deed())
            steps.append(seen(book))
        self.assertEqual([step[3] for step in steps], list(range(8)))
        for step in steps[-2::-1]:
            self.assertIsNone(book.undo())
            self.assertEqual(seen(book), step)
        with self.assertRaises(NothingToUndo):
            book.undo()
        self.assertEqual(seen(book), steps[0])

    def test_many_changes(self):
        councils = named_councils() + drawn_councils(104, 36)
        for seed in range(8):
            draw, book, told = random.Random(seed), Book(), Told()
            broken = 0
            for _ in range(80):
                councils_now, wishes = told.past[-1]
                deed = draw.randrange(5)
                if deed == 0 or not councils_now:
                    name, council = draw.choice("abc"), draw.choice(councils)
                    expected = told.go_on({**councils_now, name: council}, wishes)
                    call = (lambda: book.__setitem__(name, council))
                elif deed in (1, 2):
                    name = draw.choice(sorted(councils_now))
                    wish = draw.choice((("always", name), ("days", name, draw.randrange(1, 5)), ("way", name, draw.randrange(3)),
                                        ("voice", name, draw.choice(councils_now[name].minds))))
                    expected = told.go_on(councils_now, wishes + (wish,))
                    call = (lambda: book.wish(wish))
                elif deed == 3 and wishes:
                    at = draw.randrange(len(wishes))
                    expected = told.go_on(councils_now, wishes[:at] + wishes[at + 1:])
                    call = (lambda: book.lift(at))
                elif len(told.past) > 1:
                    told.past.pop()
                    expected, call = None, book.undo
                else:
                    continue
                if expected is None:
                    self.assertIsNone(call())
                else:
                    broken += 1
                    with self.assertRaises(Broken) as caught:
                        call()
                    self.assertEqual(caught.exception.index, expected)
                self.assertEqual(seen(book), told.seen())
            self.assertGreater(broken, 3)

    def test_what_is_given_cannot_change_the_book(self):
        book = some_book()
        before = seen(book)
        for name in ("names", "wishes", "changes"):
            with self.assertRaises(AttributeError):
                setattr(book, name, ())
        self.assertEqual([book.names.__class__, book.wishes.__class__, book.changes.__class__], [tuple, tuple, int])
        self.assertEqual(seen(book), before)


class TestTrial(unittest.TestCase):
    def deeds(self, book):
        book.lift(0)
        book["good"] = BAD
        book["new"] = ONE
        book.wish(("always", "new"))

    def test_the_changes_stay(self):
        book, other = some_book(), some_book()
        with book.trial() as held:
            self.assertIs(held, book)
            self.deeds(book)
        self.deeds(other)
        self.assertEqual(seen(book), seen(other))
        while other.changes > 0:
            book.undo()
            other.undo()
            self.assertEqual(seen(book), seen(other))

    def test_put_back_if_the_block_ends_with_an_exception(self):
        for error in (Stop, KeyboardInterrupt, StopIteration, GeneratorExit, Broken):
            book = some_book()
            before, raised = seen(book), error(0)
            with self.assertRaises(error) as caught:
                with book.trial():
                    self.deeds(book)
                    raise raised
            self.assertIs(caught.exception, raised)
            self.assertEqual(seen(book), before)
            book.undo()
            self.assertEqual(book.wishes, (("always", "good"),))

    def test_changes_from_before_the_block_that_were_taken_back(self):
        book = some_book()
        before = seen(book)
        with self.assertRaises(NothingToUndo):
            with book.trial():
                while True:
                    book.undo()
        self.assertEqual(seen(book), before)
        other = some_book()
        for one in (book, other):
            one.undo()
            one.undo()
            one.undo()
            self.assertEqual(seen(one), (("good",), [GOOD], (), 1, 1))
        with book.trial():
            book.undo()
        self.assertEqual(seen(book), ((), [], (), 0, 0))

    def test_an_error_of_the_book_itself(self):
        book = some_book()
        before = seen(book)
        with self.assertRaises(Broken) as caught:
            with book.trial():
                self.deeds(book)
                book["new"] = SWAP
        self.assertEqual([caught.exception.index, seen(book)], [1, before])

    def test_left_by_return_and_break(self):
        book = some_book()

        def returned():
            with book.trial():
                book.lift(0)
                return book.changes
        self.assertEqual([returned(), book.changes], [5, 5])
        for _ in range(2):
            with book.trial():
                book.lift(0)
                break
        self.assertEqual([book.wishes, book.changes], [(), 6])

    def test_blocks_within_blocks(self):
        book = some_book()
        before = seen(book)
        with self.assertRaises(Stop):
            with book.trial():
                book.lift(1)
                with book.trial():
                    book.lift(0)
                self.assertEqual(book.wishes, ())
                middle = seen(book)
                with self.assertRaises(Stop):
                    with book.trial():
                        book.undo()
                        book["x"] = ONE
                        raise Stop
                self.assertEqual(seen(book), middle)
                raise Stop
        self.assertEqual(seen(book), before)
        with book.trial():
            book.lift(1)
            try:
                with book.trial():
                    book.lift(0)
                    raise Stop
            except Stop:
                pass
            book["x"] = ONE
        self.assertEqual([book.names, book.wishes, book.changes], [("bad", "good", "x"), (("always", "good"),), 6])

    def test_a_call_alone_changes_nothing(self):
        book = some_book()
        before = seen(book)
        trial = book.trial()
        self.assertEqual(seen(book), before)
        book.lift(0)
        later = seen(book)
        with self.assertRaises(Stop):
            with trial as held:
                self.assertIs(held, book)
                book.lift(0)
                raise Stop
        self.assertEqual(seen(book), later)
        with self.assertRaises(Stop):
            with trial:
                book.undo()
                with trial:
                    book.undo()
                raise Stop
        self.assertEqual(seen(book), later)


class TestTried(unittest.TestCase):
    def test_what_the_function_returns(self):
        book, passed = some_book(), []

        def action(held):
            passed.append(held)
            held.lift(0)
            return passed
        self.assertIs(book.tried(action), passed)
        self.assertIs(passed[0], book)
        self.assertEqual([len(passed), book.wishes, book.changes], [1, (("voice", "bad", "bob"),), 5])
        self.assertIsNone(book.tried(action=lambda held: held.undo()))
        self.assertEqual(seen(book), seen(some_book()))

    def test_put_back_if_the_function_raises(self):
        book = some_book()
        before = seen(book)

        def action(held):
            held.undo()
            held["bad"] = SWAP
            held.tried(lambda again: again.undo())
            held.wish(("always", "bad"))
        with self.assertRaises(Broken) as caught:
            book.tried(action)
        self.assertEqual([caught.exception.index, seen(book)], [1, before])


class TestTwoBooks(unittest.TestCase):
    def test_two_books_never_change_one_another(self):
        one, other = some_book(), some_book()
        one["new"] = ONE
        one.lift(0)
        one.wish(("always", "new"))
        self.assertEqual(seen(other), seen(some_book()))
        with self.assertRaises(Stop):
            with one.trial(), other.trial():
                one.undo()
                other.undo()
                raise Stop
        self.assertEqual(seen(other), seen(some_book()))
        other.undo()
        self.assertEqual([one.names, one.changes], [("bad", "good", "new"), 7])
        self.assertEqual(seen(Book()), ((), [], (), 0, 0))

    def test_a_book_is_true_and_equal_to_itself_alone(self):
        for make in (Book, some_book):
            one, other = make(), make()
            self.assertIs(bool(one), True)
            self.assertTrue(one == one)
            self.assertFalse(one != one)
            self.assertFalse(one == other)
            self.assertTrue(one != other)


class TestExamples(unittest.TestCase):
    def test_the_examples_of_the_document(self):
        book = Book()
        book["good"] = GOOD
        self.assertIsNone(book.wish(("days", "good", 2)))
        self.assertEqual([book.names, book.changes, len(book), book["good"] == GOOD], [("good",), 2, 1, True])
        with self.assertRaises(Broken) as caught:
            book.wish(("voice", "good", "ann"))
        self.assertEqual(caught.exception.index, 1)


if __name__ == "__main__":
    unittest.main()
