import unittest

from alwaysagree.checks import has_twice, is_fraction, is_index, is_integer, is_name, is_same
from alwaysagree.councils import Council
from tests.kinds import EqualsAll, EqualsNone, all_kinds, deep, other_kinds


class TestIntegers(unittest.TestCase):
    def test_integers(self):
        for value in (0, 1, -1, 10 ** 79, -(10 ** 79)):
            self.assertIs(is_integer(value), True)

    def test_true_and_false_and_other_kinds_are_none(self):
        for value in other_kinds() + ["", "1", (), (1,)]:
            with self.subTest(kind=value.__class__.__name__):
                self.assertIs(is_integer(value), False)


class TestIndexes(unittest.TestCase):
    def test_indexes_begin_with_0_and_are_not_counted_from_the_end(self):
        self.assertEqual([value for value in range(-5, 6) if is_index(value, 3)], [0, 1, 2])
        self.assertFalse(is_index(0, 0))

    def test_other_kinds_are_none(self):
        for value in other_kinds() + ["", "0", (), (0,)]:
            with self.subTest(kind=value.__class__.__name__):
                self.assertIs(is_index(value, 3), False)


class TestNames(unittest.TestCase):
    def test_names(self):
        for value in ("a", "z", "a0", "z9", "ann", "abcdefgh", "a1234567", "aaaaaaaa"):
            with self.subTest(value):
                self.assertIs(is_name(value), True)

    def test_no_names(self):
        for value in ("", "abcdefghi", "a12345678", "0", "0a", "9abc", "A", "aB", "Ann", "a b", " a", "a ", "a\n", "\na",
                      "a-b", "a_b", "_a", "a.b", "a,b", "\u00e4", "a\u00e4", "a\u00b2", "\u0430"):
            with self.subTest(repr(value)):
                self.assertIs(is_name(value), False)

    def test_each_sign_at_each_place(self):
        for sign in "".join([chr(code) for code in range(128)]):
            letter = "a" <= sign <= "z"
            with self.subTest(repr(sign)):
                self.assertIs(is_name(sign), letter)
                self.assertIs(is_name(sign + "b"), letter)
                self.assertIs(is_name("a" + sign), letter or "0" <= sign <= "9")
                self.assertIs(is_name("a" + sign + "c"), letter or "0" <= sign <= "9")

    def test_other_kinds_are_none(self):
        for value in all_kinds():
            if not isinstance(value, str):
                with self.subTest(kind=value.__class__.__name__):
                    self.assertIs(is_name(value), False)


class TestFractions(unittest.TestCase):
    def test_fractions(self):
        for value in ((0, 1), (1, 1), (-1, 1), (1, 2), (-3, 2), (10 ** 79, 3), (-(10 ** 79), 10 ** 79 + 1), (7, 10 ** 79)):
            self.assertIs(is_fraction(value), True)

    def test_all_small_pairs(self):
        for top in range(-12, 13):
            for bottom in range(-12, 13):
                divisors = [one for one in range(2, 13) if top % one == 0 and bottom % one == 0]
                self.assertIs(is_fraction((top, bottom)), bottom > 0 and divisors == [])

    def test_no_fractions(self):
        for value in ((), (1,), (1, 2, 3), [1, 2], (True, 2), (1, True), (False, 1), ("1", 2), (1, None), ((1,), 2),
                      (2 * 10 ** 79, 10 ** 79), (EqualsAll(), 1), (1, EqualsNone())):
            self.assertIs(is_fraction(value), False)
        for value in all_kinds():
            with self.subTest(kind=value.__class__.__name__):
                self.assertIs(is_fraction(value), False)
                self.assertIs(is_fraction((value,)), False)
                if value.__class__ is not int:
                    self.assertIs(is_fraction((value, 1)), False)
                    self.assertIs(is_fraction((1, value)), False)


class TestSame(unittest.TestCase):
    def test_each_value_is_the_same_as_itself(self):
        for value in all_kinds():
            with self.subTest(kind=value.__class__.__name__):
                self.assertIs(is_same(value, value), True)
                self.assertIs(is_same((value, 1), (value, 1)), True)

    def test_equal_values(self):
        for one, other in (([1], [1]), ({1: 2}, {1: 2}), ((), ()), ((1, ("a",)), (1, ("a",))), ({"a"}, {"a"}),
                           (Council(("a",), (((1,),),)), Council.read("a\n1")), (deep(100), deep(100))):
            self.assertIs(is_same(one, other), True)

    def test_values_that_are_not_the_same(self):
        for one, other in ((1, 2), (1, True), (0, False), ("1", 1), ("a", b"a"), ("a", "b"), (1, 1 + 0j), ([1], (1,)),
                           ((1,), (True,)), ((1, (2, 0)), (1, (2, False))), ((1,), (1, 2)), ((1, 2), (1,)), ((), (1,)),
                           ({"a"}, frozenset("a")), (None, False), (deep(100), deep(99)), (object(), object())):
            self.assertIs(is_same(one, other), False)
            self.assertIs(is_same(other, one), False)

    def test_values_of_other_kinds_are_not_compared(self):
        for value in all_kinds():
            for other in (EqualsAll(), EqualsNone()):
                if value.__class__ is not other.__class__:
                    with self.subTest(kind=value.__class__.__name__):
                        self.assertIs(is_same(value, other), False)
                        self.assertIs(is_same(other, value), False)


class TestTwice(unittest.TestCase):
    def test_nothing_stands_twice(self):
        for values in ((), (1,), (1, 2, 3), (1, True), (0, False, "0", None), ("a", "b", "c", "d"), ((1,), (True,))):
            self.assertIs(has_twice(values), False)

    def test_at_all_places(self):
        for value in all_kinds():
            for place in range(5):
                for at in range(place):
                    values = ["a", 2, None, b"c", (3,)]
                    values[at] = values[place] = value
                    with self.subTest(kind=value.__class__.__name__):
                        self.assertIs(has_twice(tuple(values)), True)


if __name__ == "__main__":
    unittest.main()
