"""Point 25: what can be, and what is barred."""

import random
import unittest

from lastpairs.askpapers import barring_asks, can_still_be, ends_left, is_barring_asks
from lastpairs.left import left_wishes
from lastpairs.plain import lasting_pairings
from lastpairs.proposals import asked_out
from tests import naive
from tests.helpers import many_wishes, ring_wishes, wishes_of, wrong_forms, zoo

FIVE = wishes_of((1, 3), (2, 0), (3, 1), (0, 2, 4), (3,))


def is_barring_by_words(wishes, person, other, value):
    if type(value) is not tuple:
        return False
    holds = naive.follow(wishes, value)
    return holds is not None and not naive.is_left(wishes, holds, person, other)


class AskPapersTest(unittest.TestCase):
    def test_ordinary(self):
        self.assertEqual(ends_left(FIVE), ((1, 3), (2, 0), (3, 1), (0, 2), None))
        self.assertEqual(ends_left(wishes_of(())), (None,))
        self.assertEqual(ends_left(wishes_of((1,), (0,))), ((1, 1), (0, 0)))
        self.assertIs(can_still_be(FIVE, 0, 1), True)
        self.assertIs(can_still_be(FIVE, 3, 4), False)
        self.assertIs(can_still_be(wishes=FIVE, person=4, other=3), False)
        self.assertIs(can_still_be(FIVE, 0, 2), False)
        self.assertIs(can_still_be(FIVE, 4, 4), False)
        self.assertIs(can_still_be(FIVE, 0, 0), False)
        self.assertIsNone(barring_asks(FIVE, 0, 1))
        self.assertIsNone(barring_asks(wishes=FIVE, person=1, other=0))
        for one, other in ((3, 4), (4, 3)):
            self.assertTrue(is_barring_by_words(FIVE, one, other, barring_asks(FIVE, one, other)))

    def test_is_barring(self):
        for value in ((0, 2), (2,), (2, 0), (2, 1, 3), (4, 2), (3, 2, 1, 0)):
            self.assertIs(is_barring_asks(FIVE, 3, 4, value), True, value)
            self.assertIs(is_barring_asks(FIVE, 4, 3, value), True, value)
        for value in ((), (0,), (4,), (2, 2), (2, 9), (2, -1), (2, True), [2], (2, None), "c", None, 2, (2.0,), (2, 4)):
            self.assertIs(is_barring_asks(FIVE, 3, 4, value), False, value)
        self.assertIs(is_barring_asks(wishes=FIVE, person=0, other=1, value=(3, 2, 1, 0)), False)

    def test_any_values(self):
        for value in zoo():
            self.assertIs(is_barring_asks(FIVE, 3, 4, value), False)
        for value in wrong_forms((0, 2)):
            self.assertIs(is_barring_asks(FIVE, 3, 4, value), is_barring_by_words(FIVE, 3, 4, value))

    def test_against_the_words(self):
        chance = random.Random(25)
        for wishes in many_wishes(250, 120, 7):
            out = asked_out(wishes)
            lists = [naive.left_list(wishes, out, person) for person in naive.persons(wishes)]
            self.assertEqual(ends_left(wishes), tuple((some[0], some[-1]) if some else None for some in lists))
            for person in naive.persons(wishes):
                for other in naive.persons(wishes):
                    self.assertIs(can_still_be(wishes, person, other), other in lists[person])
                for other in wishes.lists[person]:
                    row = barring_asks(wishes, person, other)
                    self.assertEqual(row is None, other in lists[person])
                    self.assertTrue(row is None or is_barring_by_words(wishes, person, other, row))
                    self.assertEqual(is_barring_asks(wishes, person, other, row), row is not None)
                    some = tuple(chance.choice(naive.persons(wishes)) for _ in range(chance.randint(0, 4)))
                    expected = is_barring_by_words(wishes, person, other, some)
                    self.assertIs(is_barring_asks(wishes, person, other, some), expected)

    def test_what_lasts_is_left(self):
        for wishes in many_wishes(251, 60, 6):
            ends = ends_left(wishes)
            for parting in naive.lasting_partings(wishes):
                for person, follower in enumerate(parting):
                    if follower != person:
                        first, last = ends[person]
                        self.assertFalse(naive.rather(wishes, person, follower, first))
                        self.assertFalse(naive.rather(wishes, person, last, naive.before(parting, person)))
                        self.assertTrue(can_still_be(wishes, person, follower))
            self.assertEqual(lasting_pairings(left_wishes(wishes, asked_out(wishes))), lasting_pairings(wishes))

    def test_sixty_persons(self):
        wishes = ring_wishes(60)
        self.assertEqual(ends_left(wishes), tuple(((person + 1) % 60, (person - 1) % 60) for person in range(60)))
        self.assertIsNone(barring_asks(wishes, 0, 30))
        alike = wishes_of(*[[other for other in range(60) if other != person] for person in range(60)])
        row = barring_asks(alike, 0, 59)
        self.assertTrue(is_barring_asks(alike, 0, 59, row))


if __name__ == "__main__":
    unittest.main()
