import copy
import itertools
import re
import unittest

from alwaysagree.councils import Council, check_council
from alwaysagree.errors import InvalidIndex, InvalidMinds, InvalidText, InvalidWays, NotACouncil, UnknownName
from alwaysagree.limits import MOST_WEIGHT
from tests.kinds import EqualsAll, EqualsNone, all_kinds, deep, other_kinds

SIX = ("a", "b1", "cyd", "d234", "eeeeeeee", "f")
GOOD = "ann bob cyd\n1,1,0 0,1,0 0,1,1\n0,1,1 0,1,0 1,0,1"
NO_NAMES = other_kinds() + [0, 1, -1, "", "0", "0a", "A", "Ann", "a b", "ann ", " ann", "ann\n", "abcdefghi", "a-b", (),
                            ("ann",), deep(99)]
NO_WEIGHTS = other_kinds() + [-1, -(10 ** 20), MOST_WEIGHT + 1, 10 ** 79, "", "1", (), (1,), deep(97)]


def even_way(many):
    """The way by which each mind hears all, with the weight 1."""
    return tuple([tuple([1 for _ in range(many)]) for _ in range(many)])


def apart_way(many):
    """The way by which each mind hears itself alone."""
    return tuple([tuple([1 if one == other else 0 for one in range(many)]) for other in range(many)])


def with_one(values, at, value):
    """These values, with another one at an index."""
    return values[:at] + (value,) + values[at + 1:]


def samples():
    """Some councils: small and great ones, with the least and the greatest weights."""
    found = [Council.read(GOOD)]
    for many in range(1, 7):
        least = apart_way(many)
        most = tuple([tuple([MOST_WEIGHT for _ in range(many)]) for _ in range(many)])
        for count in range(1, 7):
            found.append(Council(SIX[:many], (least, most, even_way(many), least, most, least)[:count]))
    return found


class TestCouncil(unittest.TestCase):
    def test_by_position_and_by_name(self):
        minds, ways = ("ann", "bob"), (((1, 1), (1, 3)),)
        for council in (Council(minds, ways), Council(minds=minds, ways=ways), Council(ways=ways, minds=minds)):
            self.assertIs(council.minds, minds)
            self.assertIs(council.ways, ways)
            self.assertEqual(len(council), 2)
            self.assertEqual(str(council), "ann bob\n1,1 1,3")
            self.assertIs(bool(council), True)

    def test_one_to_six_minds_and_one_to_six_ways(self):
        for many, count in itertools.product(range(1, 7), range(1, 7)):
            with self.subTest(minds=many, ways=count):
                ways = tuple([even_way(many) for _ in range(count)])
                council = Council(SIX[:many], ways)
                self.assertEqual(council.minds, SIX[:many])
                self.assertEqual(council.ways, ways)
                self.assertEqual(len(council), many)
                self.assertTrue(council)
                self.assertEqual(str(council).count("\n"), count)

    def test_the_least_and_the_greatest_weights(self):
        council = Council(("a", "b"), (((0, 1), (MOST_WEIGHT, 0)), ((MOST_WEIGHT, MOST_WEIGHT), (1, 0))))
        self.assertEqual(council.ways[0], ((0, 1), (10 ** 9, 0)))
        self.assertEqual(str(council), "a b\n0,1 1000000000,0\n1000000000,1000000000 1,0")

    def test_ways_may_be_the_same(self):
        self.assertEqual(str(Council(("x",), (((2,),), ((2,),)))), "x\n2\n2")

    def test_minds_and_ways_cannot_be_set(self):
        council = Council.read(GOOD)
        with self.assertRaises(AttributeError):
            council.minds = ("x", "y", "z")
        with self.assertRaises(AttributeError):
            council.ways = (even_way(3),)
        self.assertEqual(str(council), GOOD)

    def test_all_is_defined_in_the_class_itself(self):
        for name in ("__init__", "read", "minds", "ways", "hears", "__len__", "__str__", "__eq__"):
            self.assertIn(name, vars(Council))


class TestMinds(unittest.TestCase):
    def refused(self, minds, index, ways=(even_way(1),)):
        for make in (lambda: Council(minds, ways), lambda: Council(minds=minds, ways=ways)):
            with self.assertRaises(InvalidMinds) as caught:
                make()
            self.assertIs(caught.exception.index.__class__, index.__class__)
            self.assertEqual(caught.exception.index, index)

    def test_no_tuple_and_no_minds(self):
        for minds in other_kinds() + [0, 1, "", "ann", list(SIX), ()]:
            with self.subTest(kind=minds.__class__.__name__):
                self.refused(minds, None)

    def test_no_name_at_each_place(self):
        for value in NO_NAMES:
            for at in range(6):
                with self.subTest(kind=value.__class__.__name__, at=at):
                    self.refused(with_one(SIX, at, value), at, (even_way(6),))
            self.refused((value,), 0)

    def test_there_already(self):
        for first, at in itertools.combinations(range(6), 2):
            self.refused(with_one(SIX, at, SIX[first]), at, (even_way(6),))
        self.refused(("a", "b", "b", "a"), 2)
        self.refused(("a", "a", ""), 1)
        self.refused(("a", "", "a"), 1)

    def test_seven_and_more(self):
        self.refused(SIX + ("g",), 6, (even_way(7),))
        self.refused(SIX + ("a",), 6, (even_way(7),))
        self.refused(SIX + (None,), 6, (even_way(7),))
        self.refused(SIX + ("g", "h"), 6, (even_way(8),))
        self.refused(("a",) * 7, 1, (even_way(7),))
        self.refused((None,) * 7, 0, (even_way(7),))
        self.refused(with_one(SIX, 5, "a") + ("g",), 5, (even_way(7),))

    def test_minds_are_looked_at_ahead_of_ways(self):
        for ways in all_kinds() + [((),), (((0,),),)]:
            with self.subTest(kind=ways.__class__.__name__):
                self.refused((), None, ways)
                self.refused(["ann"], None, ways)
                self.refused(("ann", "ann"), 1, ways)
                self.refused(SIX + ("g",), 6, ways)


class TestWays(unittest.TestCase):
    def refused(self, ways, index, minds=("ann", "bob")):
        for make in (lambda: Council(minds, ways), lambda: Council(minds=minds, ways=ways)):
            with self.assertRaises(InvalidWays) as caught:
                make()
            self.assertIs(caught.exception.index.__class__, index.__class__)
            self.assertEqual(caught.exception.index, index)

    def refused_at_each_place(self, way, minds=("ann", "bob")):
        right = tuple([even_way(len(minds)) for _ in range(6)])
        for at in range(6):
            self.refused(with_one(right, at, way), at, minds)
        self.refused((way,), 0, minds)

    def test_no_tuple_and_no_ways(self):
        for ways in other_kinds() + [0, 1, "", "1,1 1,1", [even_way(2)], ()]:
            with self.subTest(kind=ways.__class__.__name__):
                self.refused(ways, None)

    def test_ways_of_other_kinds(self):
        for way in all_kinds() + [list(even_way(2)), "11"]:
            with self.subTest(kind=way.__class__.__name__):
                self.refused_at_each_place(way)

    def test_ways_that_are_too_short_or_too_long(self):
        for way in ((), ((1, 1),), ((1, 1), (1, 1), (1, 1)), even_way(1), even_way(3)):
            self.refused_at_each_place(way)
        for many in range(1, 7):
            for other in range(0, 9):
                if other != many:
                    self.refused_at_each_place(even_way(other), SIX[:many])

    def test_rows_of_other_kinds(self):
        for row in all_kinds() + [[1, 1], "11", b"11"]:
            with self.subTest(kind=row.__class__.__name__):
                self.refused_at_each_place((row, (1, 1)))
                self.refused_at_each_place(((1, 1), row))

    def test_rows_that_are_too_short_or_too_long(self):
        for row in ((), (1,), (1, 1, 1), (1, 1, 0), (0, 0, 1)):
            self.refused_at_each_place((row, (1, 1)))
            self.refused_at_each_place(((1, 1), row))

    def test_no_weights_at_each_place(self):
        for value in NO_WEIGHTS:
            with self.subTest(kind=value.__class__.__name__):
                for mind, at in itertools.product(range(3), range(3)):
                    row = with_one((1, 1, 1), at, value)
                    self.refused((even_way(3), with_one(even_way(3), mind, row)), 1, SIX[:3])
        self.refused((((True,),),), 0, ("ann",))
        self.refused((((False, 1), (1, 1)),), 0)

    def test_a_row_of_zeros(self):
        self.refused((((1,),), ((0,),)), 1, ("ann",))
        self.refused_at_each_place(((0, 0), (1, 1)))
        self.refused_at_each_place(((1, 1), (0, 0)))
        self.refused_at_each_place(with_one(even_way(6), 3, (0,) * 6), SIX)

    def test_seven_and_more(self):
        self.refused((even_way(2),) * 7, 6)
        self.refused((even_way(2),) * 8, 6)
        self.refused((even_way(2),) * 6 + (None,), 6)
        self.refused((even_way(2),) * 2 + (None,) + (even_way(2),) * 4, 2)
        self.refused((None,) * 7, 0)


class TestRead(unittest.TestCase):
    # What a text looks like, said a second time, apart from the program.
    NAME = "[a-z][a-z0-9]{0,7}"
    WEIGHT = "(0|[1-9][0-9]{0,9})"
    LINES = re.compile(f"{NAME}( {NAME})*(\n{WEIGHT}([ ,]{WEIGHT})*)+")

    def is_text(self, text):
        if not self.LINES.fullmatch(text):
            return False
        head, *lines = text.split("\n")
        names = head.split(" ")
        if len(names) > 6 or len(set(names)) < len(names) or len(lines) > 6:
            return False
        for line in lines:
            rows = [[int(word) for word in row.split(",")] for row in line.split(" ")]
            if len(rows) != len(names) or any(len(row) != len(names) for row in rows):
                return False
            if any(max(row) == 0 or max(row) > 10 ** 9 for row in rows):
                return False
        return True

    def refused(self, text):
        for read in (lambda: Council.read(text), lambda: Council.read(text=text)):
            with self.assertRaises(InvalidText) as caught:
                read()
            self.assertIs(caught.exception.given, text)

    def test_each_text_gives_an_equal_council_with_this_text(self):
        for council in samples():
            text = str(council)
            with self.subTest(text=text):
                for again in (Council.read(text), Council.read(text=text), council.read(text)):
                    self.assertIs(again.__class__, Council)
                    self.assertTrue(again == council)
                    self.assertEqual(str(again), text)
                    self.assertEqual(again.minds, council.minds)
                    self.assertEqual(again.ways, council.ways)

    def test_what_is_read_has_the_promised_kinds(self):
        council = Council.read("ann bob\n0,7 10,1000000000")
        self.assertEqual(council.minds, ("ann", "bob"))
        self.assertEqual(council.ways, (((0, 7), (10, 10 ** 9)),))
        self.assertEqual([row.__class__ for row in council.ways[0]], [tuple, tuple])
        self.assertEqual([weight.__class__ for row in council.ways[0] for weight in row], [int] * 4)

    def test_all_councils_with_one_mind_or_two_and_small_weights(self):
        for many, most in ((1, 12), (2, 2)):
            rows = [row for row in itertools.product(range(most + 1), repeat=many) if sum(row) > 0]
            for way in itertools.product(rows, repeat=many):
                council = Council(SIX[:many], (way, way))
                self.assertEqual(Council.read(str(council)).ways, (way, way))

    def test_values_that_are_no_strings(self):
        for value in all_kinds() + [GOOD.encode(), [GOOD], (GOOD,), Council.read(GOOD)]:
            if not isinstance(value, str):
                with self.subTest(kind=value.__class__.__name__):
                    self.refused(value)

    def test_other_strings(self):
        for text in ("", " ", "\n", "\n\n", "ann", "ann\n", "ann\n\n", "\n1", "1", "1\n1", "ann 1", "ann\n1\n", "ann\n\n1",
                     "\nann\n1", "ann\n1\n\n1", " ann\n1", "ann \n1", "ann\n 1", "ann\n1 ", "ann\n1,", "ann\n,1", "ann\n,",
                     "ann\n0", "ann\n00", "ann\n01", "ann\n001", "ann\n-1", "ann\n+1", "ann\n-0", "ann\n1.0", "ann\n1_0",
                     "ann\n1e1", "ann\n0x1", "ann\none", "ann\nTrue", "ann\n1000000001", "ann\n10000000000",
                     "ann\n01000000000", "ann\n1\r\n1", "ann\r\n1", "ann\t\n1", "ann\r1", "ann\n1\n0", "Ann\n1", "0\n1",
                     "abcdefghi\n1", "ann bob\n1,1 1,1 ", "ann  bob\n1,1 1,1", "ann bob\n1,1  1,1", "ann bob\n1,1, 1,1",
                     "ann bob\n1, 1 1,1", "ann bob\n1,,1 1,1", "ann bob\n1 1 1 1", "ann bob\n1,1,1,1", "ann bob\n1,1\n1,1",
                     "ann bob\n1,1", "ann bob\n1,1 1", "ann bob\n1,1 1,1 1,1", "ann bob\n1,1 1,1,1", "ann bob\n1,1 0,0",
                     "ann bob\n1,1 1,01", "ann,bob\n1,1 1,1", "ann\nbob\n1,1 1,1", "ann bob\n1,1;1,1", "ann ann\n1,1 1,1",
                     "bob ann bob\n1,1,1 1,1,1 1,1,1", "ann\n\u0661", "ann\n\u00b2", "\u00e4nn\n1", "ann\x0b1", "ann\x0c1",
                     "ann\u20281", "a b c d e f g\n" + " ".join(["1,1,1,1,1,1,1"] * 7), "ann" + "\n1" * 7,
                     "ann\n" + "1" * 5000, "ann\n" + "0" * 5990 + "1", "\n" * 6000, " " * 6000, "," * 6000, "1" * 6000):
            with self.subTest(repr(text[:40])):
                self.assertFalse(self.is_text(text))
                self.refused(text)

    def test_each_text_with_one_sign_otherwise(self):
        read = 0
        for text in ("x\n10", "ann b1\n1,0 0,12\n3,4 10,0", GOOD, str(Council(SIX, (even_way(6),) * 2))):
            self.assertTrue(self.is_text(text))
            for at in range(len(text) + 1):
                changed = [text[:at] + text[at + 1:]]
                for sign in "\n ,-+019azA._\r\t":
                    changed = changed + [text[:at] + sign + text[at:], text[:at] + sign + text[at + 1:]]
                for other in changed:
                    if self.is_text(other):
                        read += 1
                        self.assertEqual(str(Council.read(other)), other)
                    else:
                        self.refused(other)
        self.assertGreater(read, 500)


class TestHears(unittest.TestCase):
    def test_the_minds_in_the_order_of_the_council(self):
        council = Council(("cyd", "ann", "bob"), (((0, 5, 0), (1, 0, 10 ** 9), (2, 2, 2)), apart_way(3)))
        self.assertEqual(council.hears(0, "cyd"), ("ann",))
        self.assertEqual(council.hears(0, "ann"), ("cyd", "bob"))
        self.assertEqual(council.hears(way=0, mind="bob"), ("cyd", "ann", "bob"))
        self.assertEqual([council.hears(1, mind) for mind in council.minds], [("cyd",), ("ann",), ("bob",)])
        self.assertEqual(Council(("x",), (((7,),),)).hears(0, "x"), ("x",))

    def test_each_row_of_each_way(self):
        for council in samples():
            for way, mind in itertools.product(range(len(council.ways)), range(len(council))):
                row = council.ways[way][mind]
                heard = tuple([council.minds[at] for at in range(len(council)) if row[at] != 0])
                self.assertEqual(council.hears(way, council.minds[mind]), heard)

    def test_no_index_of_a_way_ahead_of_no_mind(self):
        council = Council.read(GOOD)
        for way in other_kinds() + [-1, -2, 2, 10 ** 79, "", "0", (), (0,), deep(100)]:
            for mind in ("ann", "dan", 0, None, [], EqualsAll(), EqualsNone()):
                with self.subTest(way=way.__class__.__name__, mind=mind.__class__.__name__):
                    with self.assertRaises(InvalidIndex) as caught:
                        council.hears(way, mind)
                    self.assertIs(caught.exception.given, way)

    def test_no_mind(self):
        council = Council.read(GOOD)
        for mind in other_kinds() + [0, 1, "", "dan", "Ann", "ann ", "an", "ann bob", (), ("ann",), ("ann", "bob", "cyd"),
                                     deep(100)]:
            for way in (0, 1):
                with self.subTest(kind=mind.__class__.__name__):
                    with self.assertRaises(UnknownName) as caught:
                        council.hears(way=way, mind=mind)
                    self.assertIs(caught.exception.given, mind)

    def test_nothing_is_changed(self):
        council = Council.read(GOOD)
        before = (council.minds, copy.deepcopy(council.ways))
        self.assertEqual(council.hears(1, "cyd"), council.hears(1, "cyd"))
        self.assertEqual((council.minds, council.ways), before)
        self.assertEqual(str(council), GOOD)


class TestEquality(unittest.TestCase):
    def check(self, one, other, same):
        self.assertIs(one == other, same)
        self.assertIs(one != other, not same)

    def test_councils_are_equal_if_their_texts_are(self):
        found = samples() + samples()
        for one, other in itertools.product(found, found):
            self.check(one, other, str(one) == str(other))

    def test_each_part_counts(self):
        one = Council(("a", "b"), (((1, 2), (3, 4)),))
        self.check(one, Council(("a", "b"), (((1, 2), (3, 4)),)), True)
        self.check(one, Council(("b", "a"), (((1, 2), (3, 4)),)), False)
        self.check(one, Council(("a", "c"), (((1, 2), (3, 4)),)), False)
        self.check(one, Council(("a", "b"), (((3, 4), (1, 2)),)), False)
        self.check(one, Council(("a", "b"), (((2, 4), (6, 8)),)), False)
        self.check(one, Council(("a", "b"), (((1, 2), (3, 4)), ((1, 2), (3, 4)))), False)

    def test_never_to_values_of_other_kinds(self):
        council = Council.read(GOOD)
        for value in all_kinds() + [GOOD, (council.minds, council.ways), [council], (council,)]:
            with self.subTest(kind=value.__class__.__name__):
                self.check(council, value, False)
                if value.__class__ not in (EqualsAll, EqualsNone):
                    self.check(value, council, False)


class TestCheckCouncil(unittest.TestCase):
    def test_a_council_is_one(self):
        for council in samples():
            self.assertIsNone(check_council(council))

    def test_other_values_are_none(self):
        for value in all_kinds() + [GOOD, Council, (Council.read(GOOD),)]:
            with self.subTest(kind=value.__class__.__name__):
                with self.assertRaises(NotACouncil) as caught:
                    check_council(value)
                self.assertIs(caught.exception.given, value)


class TestExamples(unittest.TestCase):
    def test_the_examples_of_the_document(self):
        good = Council.read("ann bob cyd\n1,1,0 0,1,0 0,1,1\n0,1,1 0,1,0 1,0,1")
        bad = Council(good.minds, good.ways + (((1, 0, 0), (0, 1, 0), (0, 0, 1)),))
        duo = Council(("ann", "bob"), (((1, 1), (1, 3)),))
        self.assertEqual(
            [good.minds, good.ways[1][2], good.hears(1, "cyd"), len(good), str(duo), Council.read(str(bad)) == bad],
            [("ann", "bob", "cyd"), (1, 0, 1), ("ann", "cyd"), 3, "ann bob\n1,1 1,3", True])
        with self.assertRaises(InvalidWays) as caught:
            Council(("ann",), (((1,),), ((0,),)))
        self.assertEqual(caught.exception.index, 1)


if __name__ == "__main__":
    unittest.main()
