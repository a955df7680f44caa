"""Points 2, 6 and 7: wishes and ranks."""

import random
import unittest

from lastpairs.errors import InvalidWishes
from lastpairs.lodgings import Lodging
from lastpairs.wishes import (
    Wishes, best_of, is_wished, pairs_in, person_number, rank_of, ranks_in, would_rather, worst_of,
)
from tests import naive
from tests.helpers import NAMES, Posing, many_wishes, raised, ring_wishes, wishes_of, wrong_forms, zoo

ABC = ("ann", "bob", "cid")
RING = ((1, 2), (2, 0), (0, 1))


class WishesTest(unittest.TestCase):
    def told(self, names, lists):
        error = raised(Wishes, names, lists)
        if error is not None:
            self.assertEqual(error[0], "InvalidWishes")
            return error[1]
        return None

    def test_attributes(self):
        wishes = Wishes(ABC, RING)
        self.assertEqual((wishes.names, wishes.lists), (ABC, RING))
        self.assertEqual(Wishes(lists=RING, names=ABC), wishes)

    def test_names(self):
        for names in ((), ("a", "a"), ("b", "a"), ("a", "abcdefg"), ("", "a"), ("A",), ("a1",), ("a ",), ("a\n",), ("\xe9",),
                      ("a", None), (1,), [], "a", ["a"], {"a": 1}, None, ("ab", "a"), (b"a",), ("a", "b", "a")):
            self.assertEqual(self.told(names, ((),)), -2, names)
        self.assertIsNone(self.told(("a",), ((),)))
        self.assertIsNone(self.told(("abcdef", "z"), ((), ())))

    def test_sixty_persons_and_one_more(self):
        self.assertIsNone(self.told(NAMES[:60], ((),) * 60))
        self.assertEqual(self.told(NAMES[:61], ((),) * 61), -2)
        full = ring_wishes(60)
        self.assertEqual(len(pairs_in(full)), 1770)

    def test_lists(self):
        for lists in (None, [(), (), ()], ((), ()), ((), (), (), ()), "abc", {0: (), 1: (), 2: ()}, 3):
            self.assertEqual(self.told(ABC, lists), -1, lists)
        for item in ([1], (1, 1), (0,), (3,), (-1,), (True,), ("bob",), (None,), (1.0,), None, "1", 1, {1: 2}, ((1,),)):
            self.assertEqual(self.told(ABC, ((), item, ())), 1, item)

    def test_false_is_no_number(self):
        self.assertEqual(self.told(("a", "b"), ((1,), (False,))), 1)
        self.assertEqual(self.told(("a", "b"), ((True,), (0,))), 0)

    def test_both_ways(self):
        self.assertEqual(self.told(ABC, ((1,), (), ())), 0)
        self.assertEqual(self.told(ABC, ((), (0,), ())), 1)
        self.assertEqual(self.told(ABC, ((1,), (0, 2), ())), 1)
        self.assertEqual(self.told(ABC, ((1, 2), (0,), (1,))), 0)

    def test_sequence_of_errors(self):
        self.assertEqual(self.told(("b", "a"), None), -2)
        self.assertEqual(self.told(ABC, ((1,), (), None)), 2)
        self.assertEqual(self.told(ABC, ((1,), (1,), None)), 1)
        self.assertEqual(self.told(None, ()), -2)

    def test_any_values(self):
        for value in zoo():
            lot = type(value) is tuple and len(value) == 1 and naive.is_name(value[0])
            self.assertEqual(self.told(value, ()), -1 if lot else -2)
            three = type(value) is tuple and len(value) == 3
            self.assertEqual(self.told(ABC, value), 0 if three else -1)

    def test_wrong_forms(self):
        for value in wrong_forms(RING):
            self.assertEqual(self.told(ABC, value), self.expected(value))
        for value in wrong_forms(ABC):
            if type(value) is not tuple or not all(naive.is_name(name) for name in value) or list(value) != sorted(value):
                self.assertEqual(self.told(value, RING), -2)

    def expected(self, lists):
        """What the document says of any value as the lists of three persons."""
        if type(lists) is not tuple or len(lists) != 3:
            return -1
        for at, some in enumerate(lists):
            if type(some) is not tuple or not all(naive.is_number(other) and other < 3 for other in some):
                return at
            if at in some or len(set(some)) < len(some):
                return at
        for at, some in enumerate(lists):
            if [other for other in some if at not in lists[other]]:
                return at
        return None

    def test_any_item(self):
        for value in zoo():
            expected = None if value.__class__ is tuple and len(value) == 0 else 1
            self.assertEqual(self.told(ABC, ((), value, ())), expected)

    def test_equality(self):
        wishes = Wishes(ABC, RING)
        self.assertTrue(wishes == Wishes(ABC, RING))
        self.assertFalse(wishes != Wishes(ABC, RING))
        self.assertFalse(wishes == Wishes(("ann", "bob", "cyd"), RING))
        self.assertFalse(wishes == Wishes(ABC, ((2, 1), (2, 0), (0, 1))))
        for value in zoo():
            self.assertIs(wishes.__eq__(value), False)
        self.assertFalse(Wishes(("a",), ((),)) == Posing())
        self.assertFalse(wishes == Lodging(wishes, ()))
        self.assertFalse(wishes == (ABC, RING))

    def test_later_changes_of_arguments(self):
        self.assertEqual(self.told(list(ABC), RING), -2)
        self.assertEqual(self.told(ABC, tuple(map(list, RING))), 0)


class NumbersTest(unittest.TestCase):
    def test_person_number(self):
        wishes = Wishes(ABC, RING)
        self.assertEqual([person_number(wishes, name) for name in ABC], [0, 1, 2])
        self.assertEqual(person_number(wishes=wishes, name="bob"), 1)
        for value in zoo() + ["an", "annn", "Ann", b"ann", ("ann",), " ann", 0, 1]:
            self.assertEqual(raised(person_number, wishes, value), ("Refused", "name"))


class RanksTest(unittest.TestCase):
    def test_ordinary(self):
        wishes = wishes_of((1, 3, 2), (2, 0), (1, 0), (0,))
        self.assertEqual([rank_of(wishes, 0, other) for other in (1, 3, 2, None)], [0, 1, 2, 3])
        self.assertEqual(rank_of(wishes, 3, None), 1)
        self.assertTrue(is_wished(wishes, 0, 3))
        self.assertFalse(is_wished(wishes, 1, 3))
        self.assertIs(is_wished(wishes, 1, 0), True)
        self.assertTrue(would_rather(wishes, 0, 1, 3))
        self.assertFalse(would_rather(wishes, 0, 3, 1))
        self.assertFalse(would_rather(wishes, 0, 3, 3))
        self.assertTrue(would_rather(wishes, 0, 2, None))
        self.assertFalse(would_rather(wishes, 0, None, 2))
        self.assertFalse(would_rather(wishes, 0, None, None))
        self.assertEqual(ranks_in(wishes), ((None, 0, 2, 1), (1, None, 0, None), (1, 0, None, None), (0, None, None, None)))
        self.assertEqual(pairs_in(wishes), ((0, 1), (0, 2), (0, 3), (1, 2)))

    def test_best_and_worst(self):
        wishes = wishes_of((1, 3, 2), (2, 0), (1, 0), (0,))
        self.assertEqual(best_of(wishes, 0, (2, 3)), 3)
        self.assertEqual(worst_of(wishes, 0, (2, 3, 1)), 2)
        self.assertEqual(best_of(wishes, 1, (3, 0, 1, 0)), 0)
        self.assertEqual(worst_of(wishes, 1, (3, 2, 1)), 2)
        for some in ((), (1,), (1, 2), (3,)):
            self.assertIsNone(best_of(wishes, 3, some))
            self.assertIsNone(worst_of(wishes, 3, some))

    def test_nobody_on_any_list(self):
        wishes = wishes_of(())
        self.assertEqual(ranks_in(wishes), ((None,),))
        self.assertEqual(pairs_in(wishes), ())
        self.assertEqual(rank_of(wishes, 0, None), 0)

    def test_against_the_words(self):
        chance = random.Random(7)
        for wishes in many_wishes(7, 40, 9):
            self.assertEqual(list(pairs_in(wishes)), naive.pairs(wishes))
            for person in naive.persons(wishes):
                some = tuple(chance.choices(naive.persons(wishes), k=4))
                there = [other for other in wishes.lists[person] if other in some] or [None]
                self.assertEqual(best_of(wishes, person, some), there[0])
                self.assertEqual(worst_of(wishes, person, some), there[-1])
                for other in naive.persons(wishes):
                    listed = other in wishes.lists[person]
                    self.assertEqual(ranks_in(wishes)[person][other], naive.rank(wishes, person, other) if listed else None)
                    self.assertEqual(is_wished(wishes, person, other), listed)


if __name__ == "__main__":
    unittest.main()
