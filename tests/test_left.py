"""Points 21 and 22: holds, who is left, steady holds."""

import random
import unittest

from lastpairs.left import are_holds, are_within, firsts_left, is_steady, left_lists, left_wishes
from lastpairs.proposals import asked_out
from lastpairs.wishes import Wishes
from tests import naive
from tests.helpers import many_wishes, ring_wishes, wishes_of, wrong_forms, zoo

FIVE = wishes_of((1, 3), (2, 0), (3, 1), (0, 2, 4), (3,))


def are_holds_by_words(wishes, value):
    if type(value) is not tuple or len(value) != len(wishes.names):
        return False
    return all(held is None or (naive.is_number(held) and held in some) for held, some in zip(value, wishes.lists))


class HoldsTest(unittest.TestCase):
    def test_holds(self):
        self.assertIs(are_holds(FIVE, (None,) * 5), True)
        self.assertTrue(are_holds(FIVE, (3, 0, 1, 2, None)))
        self.assertTrue(are_holds(FIVE, (1, 0, None, 4, 3)))
        for value in ((None,) * 4, (None,) * 6, [None] * 5, (0, None, None, None, None), (2, None, None, None, None),
                      (True, None, None, None, None), (None, False, None, None, None), (-1, None, None, None, None),
                      (5, None, None, None, None), (1.0, None, None, None, None), (), None, "abcde", 5):
            self.assertIs(are_holds(FIVE, value), False, value)

    def test_any_values(self):
        for value in zoo():
            self.assertIs(are_holds(FIVE, value), False)
            self.assertIs(is_steady(FIVE, value), False)
        for value in wrong_forms((3, 0, 1, 2, None)):
            holds = are_holds_by_words(FIVE, value)
            self.assertIs(are_holds(FIVE, value), holds)
            self.assertIs(is_steady(FIVE, value), holds and naive.is_steady(FIVE, value))
        for value in zoo():
            self.assertIs(are_holds(wishes_of(()), (value,)), value is None)

    def test_lists(self):
        nobody = (None,) * 5
        self.assertEqual(left_lists(FIVE, nobody), FIVE.lists)
        self.assertEqual(firsts_left(FIVE, nobody), (1, 2, 3, 0, 3))
        self.assertEqual(left_lists(FIVE, (3, 0, 1, 2, None)), ((1, 3), (2, 0), (3, 1), (0, 2), ()))
        self.assertEqual(left_wishes(FIVE, (3, 0, 1, 2, None)), Wishes(FIVE.names, ((1, 3), (2, 0), (3, 1), (0, 2), ())))
        self.assertEqual(left_lists(wishes_of(()), (None,)), ((),))
        self.assertEqual(firsts_left(wishes_of(()), (None,)), (None,))

    def test_against_the_words(self):
        chance = random.Random(21)
        for wishes in many_wishes(21, 60, 8):
            for _ in range(10):
                one = tuple(chance.choice(some + (None,)) for some in wishes.lists)
                lists = tuple(naive.left_list(wishes, one, person) for person in naive.persons(wishes))
                self.assertTrue(are_holds(wishes, one))
                self.assertEqual(left_lists(wishes, one), lists)
                self.assertEqual(left_wishes(wishes, one).lists, lists)
                self.assertEqual(firsts_left(wishes, one), tuple((some + (None,))[0] for some in lists))
                other = tuple(held if chance.random() < 0.7 else None for held in one)
                for first, second in ((one, other), (other, one), (one, one)):
                    within = not any(naive.rather(wishes, at, second[at], first[at]) for at in naive.persons(wishes))
                    self.assertIs(are_within(wishes, first, second), within)
                    if within:
                        for kept, some in zip(left_lists(wishes, first), left_lists(wishes, second)):
                            self.assertLessEqual(set(kept), set(some))

    def test_within_is_one_way(self):
        self.assertTrue(are_within(FIVE, (3, 2, 3, 0, None), (3, 0, 1, 2, None)))
        self.assertFalse(are_within(FIVE, (3, 0, 1, 2, None), (3, 2, 3, 0, None)))
        self.assertTrue(are_within(wishes=FIVE, one=(1, None, None, None, None), other=(None,) * 5))
        self.assertFalse(are_within(FIVE, (None,) * 5, (1, None, None, None, None)))

    def test_sixty_persons(self):
        wishes = ring_wishes(60)
        nobody = (None,) * 60
        self.assertEqual(left_lists(wishes, nobody), wishes.lists)
        # Each holds its own first one, and so leaves nobody else.
        self.assertEqual(left_lists(wishes, firsts_left(wishes, nobody)), ((),) * 60)


class SteadyTest(unittest.TestCase):
    def test_ordinary(self):
        self.assertIs(is_steady(FIVE, (3, 0, 1, 2, None)), True)
        self.assertIs(is_steady(FIVE, (None,) * 5), False)
        self.assertIs(is_steady(FIVE, (1, 0, 3, 2, None)), True)
        self.assertIs(is_steady(FIVE, (3, 2, 1, 0, None)), True)
        self.assertIs(is_steady(wishes_of((), ()), (None, None)), True)
        self.assertIs(is_steady(wishes_of((1,), (0,)), (None, None)), False)
        self.assertIs(is_steady(wishes_of((1,), (0,)), (1, None)), False)

    def test_just_the_first_one(self):
        # Both 1 and 2 have 0 as their first one: it cannot hold just one of them steadily.
        wishes = wishes_of((1, 2), (0,), (0,))
        self.assertFalse(is_steady(wishes, (2, 0, None)))
        self.assertFalse(is_steady(wishes, (None, 0, None)))
        self.assertTrue(is_steady(wishes, (1, 0, None)))

    def test_against_the_words(self):
        for wishes in many_wishes(22, 40, 5):
            for holds in naive.all_holds(wishes):
                self.assertIs(is_steady(wishes, holds), naive.is_steady(wishes, holds))

    def test_what_is_left_of_steady_holds(self):
        for wishes in many_wishes(23, 30, 5):
            for holds in naive.steady_tables(wishes):
                for person, some in enumerate(left_lists(wishes, holds)):
                    self.assertEqual((some or (None,))[-1], holds[person])
                    self.assertEqual(bool(some), holds[person] is not None)

    def test_lasting_partings_are_steady_holds(self):
        for wishes in many_wishes(24, 40, 5):
            for parting in naive.partings(wishes):
                holds = tuple(naive.before(parting, person) for person in naive.persons(wishes))
                steady = is_steady(wishes, holds) and max(map(len, left_lists(wishes, holds))) <= 2
                if steady:
                    firsts = firsts_left(wishes, holds)
                    following = [person if firsts[person] is None else firsts[person] for person in naive.persons(wishes)]
                    steady = list(parting) == following
                self.assertEqual(steady, naive.does_parting_last(wishes, parting))
            self.assertTrue(is_steady(wishes, asked_out(wishes)))


if __name__ == "__main__":
    unittest.main()
