import itertools
import random
import unittest

from alwaysagree.agreeing import always_agrees
from alwaysagree.councils import Council
from alwaysagree.errors import InvalidDoubts, InvalidOffers
from alwaysagree.limits import MOST_DOUBTS, MOST_OFFERS, MOST_WEIGHT
from alwaysagree.mending import doubtful, mending, telling_doubt
from tests.kinds import EqualsAll, EqualsNone, all_kinds, deep, other_kinds
from tests.talks import (
    BAD, GOOD, NAMES, ONE, RINGS, SWAP, days_till_no_pair_is_left, drawn_council, missing_ears, named_councils,
    with_ears,
)

EARS = (("ear", 2, "ann", "bob"), ("ear", 2, "cyd", "bob"))
# Offers for BAD, and doubts about it, as many as there may be.
OFFERS = (("ear", 0, "ann", "cyd"), ("strike", 0), ("ear", 2, "ann", "bob"), ("strike", 2), ("ear", 1, "ann", "ann"),
          ("strike", 1))
DOUBTS = ((0, "ann", "cyd"), (2, "ann", "bob"), (1, "ann", "ann"), (2, "cyd", "bob"), (2, "bob", "ann"), (1, "bob", "cyd"))
# One offer, and one doubt, more than may be.
OFFER = ("ear", 2, "cyd", "bob")
DOUBT = (0, "bob", "ann")
# No names of minds of BAD, and no indexes of its ways.
NO_MINDS = other_kinds() + [0, 1, "", "dan", "Ann", "ann ", "an", (), ("bob",), BAD, deep(98)]
NO_WAYS = other_kinds() + [3, 4, -1, -3, 10 ** 79, "", "0", (), (0,), deep(98)]
NO_TUPLES = [value for value in all_kinds() if not isinstance(value, tuple)]


def no_offers():
    """Values that are no offer for BAD, wherever they stand."""
    found = all_kinds() + ["strike", "ear", ("strike",), ("strike", 0, 0), ("ear", 2, "ann"), ("ear", 2, "ann", "bob", "bob")]
    found += [["strike", 0], ["ear", 2, "ann", "bob"], (("strike", 0),), ("Strike", 0), ("strike ", 0), ("lift", 0)]
    found += [("ear", 0), ("strike", 2, "ann", "bob"), ("Ear", 2, "ann", "bob"), (2, "ann", "bob"), (0, "strike")]
    found += [(value, 0) for value in other_kinds()] + [(value, 2, "ann", "bob") for value in other_kinds()]
    found += [("strike", value) for value in NO_WAYS] + [("ear", value, "ann", "bob") for value in NO_WAYS]
    found += [("ear", 2, value, "bob") for value in NO_MINDS] + [("ear", 2, "ann", value) for value in NO_MINDS]
    # These hear each other already.
    return found + [("ear", *ear) for ear in heard_ears()]


def no_doubts():
    """Values that are no doubt about BAD, wherever they stand."""
    found = all_kinds() + [(2, "ann"), (2, "ann", "bob", "bob"), [2, "ann", "bob"], ((2, "ann", "bob"),), ("strike", 0)]
    found += [("ear", 2, "ann", "bob"), ("ann", 2, "bob"), ("ann", "bob", 2), ("ear", "ann", "bob")]
    found += [(value, "ann", "bob") for value in NO_WAYS]
    found += [(2, value, "bob") for value in NO_MINDS] + [(2, "ann", value) for value in NO_MINDS]
    return found + heard_ears()


def heard_ears():
    return [ear for ear in itertools.product(range(3), BAD.minds, BAD.minds) if ear not in missing_ears(BAD)]


def wrong_offers():
    """Triples of what are no offers for BAD, the error and its index."""
    return [(value, InvalidOffers, None) for value in NO_TUPLES + [[], list(OFFERS), iter(OFFERS)]] + [
        (value, InvalidOffers, index) for value, index in wrong_at(no_offers(), OFFERS, OFFER)]


def wrong_doubts():
    """Triples of what are no doubts about BAD, the error and its index."""
    return [(value, InvalidDoubts, None) for value in NO_TUPLES + [[], list(DOUBTS), iter(DOUBTS)]] + [
        (value, InvalidDoubts, index) for value, index in wrong_at(no_doubts(), DOUBTS, DOUBT)]


def wrong_at(values, right, more):
    """Pairs of a tuple of elements and the index of its first wrong one."""
    found = [(right + (more,), 6), (right + (more, more), 6), (right[1:] + (more, right[0]), 6)]
    for value in values:
        found += [((value,), 0), (right[:1] + (value,), 1), (right[:5] + (value,), 5), (right[:6] + (value,), 6)]
        found += [((value,) * 7, 0), (right[:2] + (value, right[0], value), 2), (right[:3] + right[:1] + (value,), 3)]
    for at, other in itertools.combinations(range(6), 2):
        found.append((right[:other] + (right[at],) + right[other:5], other))
    # The seventh is wrong, whatever it is, but not ahead of what is wrong before it.
    return found + [(right + (one,), 6) for one in right] + [(right + right, 6), (right[:1] + right, 1)]


def subsets(many):
    """All sets of so many indexes, ordered by how many they have, then ascending."""
    return [chosen for count in range(many + 1) for chosen in itertools.combinations(range(many), count)]


def agrees(council):
    return council is not None and days_till_no_pair_is_left(council) is not None


def taken(council, offers):
    """The council that has taken these offers; None if no way is left."""
    changed = with_ears(council, [offer[1:] for offer in offers if offer[0] == "ear"])
    struck = [offer[1] for offer in offers if offer[0] == "strike"]
    ways = tuple([way for at, way in enumerate(changed.ways) if at not in struck])
    return Council(council.minds, ways) if ways else None


def least_sets(council, offers):
    """All sets of offers that do it, of which no proper part does it as well."""
    doing = [chosen for chosen in subsets(len(offers)) if agrees(taken(council, [offers[at] for at in chosen]))]
    return tuple([one for one in doing if not any([set(other) < set(one) for other in doing])])


def drawn_offers(draw, council, most=6):
    every = [("ear", *ear) for ear in missing_ears(council)] + [("strike", at) for at in range(len(council.ways))] * 2
    return tuple(dict.fromkeys(draw.sample(every, min(len(every), draw.randrange(most + 1)))))


def drawn_doubts(draw, council, most=6):
    every = missing_ears(council)
    return tuple(draw.sample(every, min(len(every), draw.randrange(most + 1))))


def agreeing_sets(council, doubts):
    return [chosen for chosen in subsets(len(doubts)) if agrees(with_ears(council, [doubts[at] for at in chosen]))]


def most_telling(council, doubts):
    found = agreeing_sets(council, doubts)
    if len(found) in (0, 2 ** len(doubts)):
        return None
    best = None
    for at in range(len(doubts)):
        there = sum([at in chosen for chosen in found])
        greater = max(there, len(found) - there)
        if best is None or greater < best[0]:
            best = (greater, at)
    return best[1]


def drawn_sparse(seed, number):
    """Councils of which about half do not always agree, with a draw of their own for what is offered to them."""
    draw = random.Random(seed)
    sizes = [(1, 2), (2, 1), (2, 3), (3, 2), (3, 3), (4, 2), (4, 3), (5, 2), (6, 1), (6, 2)]
    for at in range(number):
        yield draw, drawn_council(draw, *sizes[at % len(sizes)], draw.choice((5, 7, 8, 9)), (1, 2, MOST_WEIGHT))


class TestMending(unittest.TestCase):
    def test_against_a_look_through_all_sets(self):
        seen = {"none": 0, "empty": 0, "several": 0, "great": 0}
        for draw, council in drawn_sparse(81, 120):
            offers = drawn_offers(draw, council)
            with self.subTest(council=str(council), offers=offers):
                found = mending(council, offers)
                self.assertEqual(found, least_sets(council, offers))
                self.assertTrue(all([at.__class__ is int for chosen in found for at in chosen]))
                seen["none"] += found == ()
                seen["empty"] += found == ((),)
                seen["several"] += len(found) > 1
                seen["great"] += any([len(chosen) > 1 for chosen in found])
        self.assertGreater(min(seen.values()), 5, seen)

    def test_the_order_of_the_sets(self):
        seen = 0
        for draw, council in drawn_sparse(82, 300):
            found = mending(council, drawn_offers(draw, council))
            self.assertEqual(list(found), sorted(found, key=lambda chosen: (len(chosen), chosen)))
            for chosen in found:
                self.assertEqual(list(chosen), sorted(set(chosen)))
            seen += len(set(map(len, found))) > 1
        self.assertGreater(seen, 3)

    def test_nothing_is_needed_or_nothing_does_it(self):
        self.assertEqual(mending(GOOD, ()), ((),))
        self.assertEqual(mending(BAD, ()), ())
        self.assertEqual(mending(GOOD, (("strike", 0), ("ear", 0, "bob", "ann"))), ((),))
        self.assertEqual(mending(BAD, (("strike", 0), ("ear", 2, "ann", "bob"))), ())
        self.assertEqual(mending(ONE, (("strike", 1), ("strike", 0))), ((),))

    def test_without_ways_it_is_no_council(self):
        every = (("strike", 0), ("strike", 1), ("strike", 2))
        self.assertEqual(mending(BAD, every), ((2,),))
        self.assertEqual(mending(SWAP, (("strike", 0),)), ())
        self.assertEqual(mending(RINGS, (("strike", 1), ("strike", 0))), ())
        twice = Council(SWAP.minds, SWAP.ways * 6)
        self.assertEqual(mending(twice, tuple([("strike", at) for at in range(6)])), ())

    def test_ears_of_a_way_that_is_struck(self):
        self.assertEqual(mending(BAD, (("ear", 2, "ann", "bob"), ("strike", 2))), ((1,),))
        self.assertEqual(mending(SWAP, (("ear", 0, "a", "a"), ("strike", 0))), ((0,),))

    def test_a_mind_may_come_to_hear_itself(self):
        self.assertEqual(mending(SWAP, (("ear", 0, "b", "b"), ("ear", 0, "a", "a"))), ((0,), (1,)))

    def test_several_ears_of_one_mind(self):
        council = Council(("a", "b", "c"), (((1, 0, 0), (0, 1, 0), (0, 0, 1)),))
        offers = (("ear", 0, "a", "b"), ("ear", 0, "a", "c"), ("ear", 0, "b", "c"), ("ear", 0, "b", "a"))
        self.assertEqual(mending(council, offers), least_sets(council, offers))
        self.assertEqual(mending(council, offers[1:3]), ((0, 1),))

    def test_six_minds_six_ways_and_six_offers(self):
        apart = tuple([tuple([MOST_WEIGHT if own == other else 0 for other in range(6)]) for own in range(6)])
        even = ((MOST_WEIGHT,) * 6,) * 6
        minds = tuple([f"mind{at}xyz" for at in range(6)])
        council = Council(minds, (apart, even, apart, even, apart, even))
        offers = tuple([("strike", at) for at in (5, 4, 3, 2, 1, 0)])
        self.assertEqual(mending(council, offers), ((1, 3, 5),))
        ears = tuple([("ear", 0, mind, minds[0]) for mind in minds[1:]])
        self.assertEqual(mending(Council(minds, (apart,)), ears), ((0, 1, 2, 3, 4),))
        self.assertEqual(mending(Council(minds, (apart,)), ears + (("strike", 0),)), ((0, 1, 2, 3, 4),))

    def test_what_is_offered_is_not_changed_and_may_be_asked_again(self):
        offers = (("strike", 2),) + EARS
        text = str(BAD)
        for _ in range(2):
            self.assertEqual(mending(offers=offers, council=BAD), ((0,), (1, 2)))
        self.assertEqual([str(BAD), offers], [text, (("strike", 2), *EARS)])

    def test_offers_that_are_none(self):
        for value, _, index in wrong_offers():
            with self.subTest(kind=value.__class__.__name__, index=index):
                with self.assertRaises(InvalidOffers) as caught:
                    mending(BAD, value)
                self.assertEqual(caught.exception.index, index)

    def test_six_are_let(self):
        self.assertEqual([len(OFFERS), len(DOUBTS)], [MOST_OFFERS, MOST_DOUBTS])
        self.assertEqual(mending(BAD, OFFERS), least_sets(BAD, OFFERS))

    def test_values_that_say_that_they_are_equal(self):
        for value in (EqualsAll(), EqualsNone()):
            for offer in ((value, 0), ("strike", value), (value, 2, "ann", "bob"), ("ear", 2, value, "bob"), value):
                with self.assertRaises(InvalidOffers) as caught:
                    mending(BAD, (("strike", 1), offer))
                self.assertEqual(caught.exception.index, 1)


class TestDoubtful(unittest.TestCase):
    def test_against_a_look_through_all_sets(self):
        seen = {"none": 0, "some": 0, "every": 0}
        for draw, council in drawn_sparse(83, 120):
            doubts = drawn_doubts(draw, council)
            with self.subTest(council=str(council), doubts=doubts):
                many = len(agreeing_sets(council, doubts))
                told = doubtful(council, doubts)
                self.assertEqual([told, told.__class__], [many, int])
                seen["none" if many == 0 else "every" if many == 2 ** len(doubts) else "some"] += 1
        self.assertGreater(min(seen.values()), 15, seen)

    def test_no_doubts(self):
        for council in named_councils():
            self.assertEqual(doubtful(council, ()), int(always_agrees(council)))
            self.assertIsNone(telling_doubt(council, ()))

    def test_six_doubts(self):
        self.assertEqual(doubtful(BAD, DOUBTS), len(agreeing_sets(BAD, DOUBTS)))
        self.assertEqual(doubtful(GOOD, ((0, "ann", "cyd"), (0, "bob", "ann"), (0, "bob", "cyd"), (0, "cyd", "ann"),
                                         (1, "ann", "ann"), (1, "bob", "ann"))), 64)
        apart = tuple([tuple([int(own == other) for other in range(6)]) for own in range(6)])
        council = Council(NAMES, (apart,))
        self.assertEqual(doubtful(council, tuple([(0, mind, "a") for mind in NAMES[1:]])), 1)
        self.assertEqual(doubtful(council, tuple([(0, mind, "a") for mind in NAMES[1:]]) + ((0, "a", "b1"),)), 3)
        self.assertEqual(doubtful(council, tuple([(0, "a", mind) for mind in NAMES[1:]])), 0)

    def test_doubts_that_are_none(self):
        for value, _, index in wrong_doubts():
            for ask in (doubtful, telling_doubt):
                with self.subTest(kind=value.__class__.__name__, index=index):
                    with self.assertRaises(InvalidDoubts) as caught:
                        ask(BAD, value)
                    self.assertEqual(caught.exception.index, index)


class TestTellingDoubt(unittest.TestCase):
    def test_against_a_look_through_all_sets(self):
        seen = {}
        for draw, council in drawn_sparse(84, 160):
            doubts = drawn_doubts(draw, council)
            with self.subTest(council=str(council), doubts=doubts):
                told = telling_doubt(council, doubts)
                self.assertEqual(told, most_telling(council, doubts))
                self.assertIn(told.__class__, (int, None.__class__))
                seen[told] = seen.get(told, 0) + 1
        self.assertGreater(sum([seen.get(at, 0) for at in range(1, 6)]), 5, seen)
        self.assertGreater(min(seen[None], seen[0]), 15, seen)

    def test_the_first_one_of_like_doubts(self):
        self.assertEqual(telling_doubt(SWAP, ((0, "b", "b"), (0, "a", "a"))), 0)
        self.assertEqual(telling_doubt(SWAP, ((0, "a", "a"), (0, "b", "b"))), 0)

    def test_the_greater_one_of_both_numbers(self):
        # Each ear alone is enough at the first way; at the second one both are needed, so it hangs on the last doubt.
        council = Council(("a", "b"), (((1, 0), (0, 1)),))
        self.assertEqual(telling_doubt(council, ((0, "a", "b"), (0, "b", "a"))), 0)
        three = Council(("a", "b", "c"), (((1, 0, 0), (0, 1, 0), (0, 0, 1)),))
        doubts = ((0, "a", "b"), (0, "b", "a"), (0, "c", "b"))
        self.assertEqual(len(agreeing_sets(three, doubts)), 3)
        self.assertEqual(telling_doubt(three, doubts), 0)
        self.assertEqual(telling_doubt(three, doubts[::-1]), 1)

    def test_none_where_nothing_is_in_doubt(self):
        self.assertIsNone(telling_doubt(GOOD, ((0, "ann", "cyd"),)))
        self.assertIsNone(telling_doubt(BAD, ((0, "ann", "cyd"), (2, "ann", "bob"))))

    def test_by_name_and_again(self):
        doubts = ((2, "ann", "bob"), (2, "cyd", "bob"))
        for _ in range(2):
            self.assertEqual(telling_doubt(doubts=doubts, council=BAD), 0)
            self.assertEqual(doubtful(doubts=doubts, council=BAD), 1)


class TestExamples(unittest.TestCase):
    def test_the_examples_of_the_document(self):
        self.assertEqual(
            [mending(BAD, (("strike", 2), ("ear", 2, "ann", "bob"), ("ear", 2, "cyd", "bob"))), mending(GOOD, ()),
             mending(BAD, ())],
            [((0,), (1, 2)), ((),), ()])
        doubts = ((2, "ann", "bob"), (2, "cyd", "bob"))
        self.assertEqual([doubtful(BAD, doubts), telling_doubt(BAD, doubts), doubtful(GOOD, ())], [1, 0, 1])


if __name__ == "__main__":
    unittest.main()
