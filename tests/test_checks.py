import unittest

from alwaysagree.checks import is_index, is_integer, is_name
from tests.kinds import all_kinds, other_kinds


class TestIntegers(unittest.TestCase):
    def test_integers(self):
        for value in (0, 1, -1, 10 ** 79, -(10 ** 79)):
            self.assertIs(is_integer(value), True)

    def test_true_and_false_and_other_kinds_are_none(self):
        for value in other_kinds() + ["", "1", (), (1,)]:
            with self.subTest(kind=value.__class__.__name__):
                self.assertIs(is_integer(value), False)


class TestIndexes(unittest.TestCase):
    def test_indexes_begin_with_0_and_are_not_counted_from_the_end(self):
        self.assertEqual([value for value in range(-5, 6) if is_index(value, 3)], [0, 1, 2])
        self.assertFalse(is_index(0, 0))

    def test_other_kinds_are_none(self):
        for value in other_kinds() + ["", "0", (), (0,)]:
            with self.subTest(kind=value.__class__.__name__):
                self.assertIs(is_index(value, 3), False)


class TestNames(unittest.TestCase):
    def test_names(self):
        for value in ("a", "z", "a0", "z9", "ann", "abcdefgh", "a1234567", "aaaaaaaa"):
            with self.subTest(value):
                self.assertIs(is_name(value), True)

    def test_no_names(self):
        for value in ("", "abcdefghi", "a12345678", "0", "0a", "9abc", "A", "aB", "Ann", "a b", " a", "a ", "a\n", "\na",
                      "a-b", "a_b", "_a", "a.b", "a,b", "\u00e4", "a\u00e4", "a\u00b2", "\u0430"):
            with self.subTest(repr(value)):
                self.assertIs(is_name(value), False)

    def test_each_sign_at_each_place(self):
        for sign in "".join([chr(code) for code in range(128)]):
            letter = "a" <= sign <= "z"
            with self.subTest(repr(sign)):
                self.assertIs(is_name(sign), letter)
                self.assertIs(is_name(sign + "b"), letter)
                self.assertIs(is_name("a" + sign), letter or "0" <= sign <= "9")
                self.assertIs(is_name("a" + sign + "c"), letter or "0" <= sign <= "9")

    def test_other_kinds_are_none(self):
        for value in all_kinds():
            if not isinstance(value, str):
                with self.subTest(kind=value.__class__.__name__):
                    self.assertIs(is_name(value), False)


if __name__ == "__main__":
    unittest.main()
