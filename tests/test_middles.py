"""Point 58: the middle of lasting pairings."""

import random
import unittest

from lastpairs.middles import difference, is_middle, middle_pairing
from lastpairs.plain import lasting_pairings
from tests import naive
from tests.helpers import many_wishes, raised, ring_wishes, squares, wishes_of, wrong_forms, zoo

SIX = wishes_of((3, 4, 5), (4, 5, 3), (5, 3, 4), (1, 2, 0), (2, 0, 1), (0, 1, 2))
TOLD = (((0, 3), (1, 4), (2, 5)), ((0, 4), (1, 5), (2, 3)), ((0, 5), (1, 3), (2, 4)))


class MiddleTest(unittest.TestCase):
    def test_ordinary(self):
        self.assertEqual(lasting_pairings(SIX), TOLD)
        self.assertEqual(middle_pairing(SIX, TOLD), TOLD[1])
        self.assertEqual(middle_pairing(SIX, (TOLD[2], TOLD[0], TOLD[2])), TOLD[2])
        self.assertEqual(middle_pairing(wishes=SIX, pairings=(TOLD[0],)), TOLD[0])
        self.assertEqual(middle_pairing(SIX, TOLD[:1] * 3 + TOLD[2:] * 2), TOLD[0])
        self.assertEqual(middle_pairing(wishes_of((1,), (0,), ()), (((0, 1),),)), ((0, 1),))
        self.assertEqual(middle_pairing(wishes_of(()), ((),)), ())

    def test_even_numbers(self):
        for pairings in ((), TOLD[:2], TOLD + TOLD[:1], TOLD[:1] * 2):
            self.assertEqual(raised(middle_pairing, SIX, pairings), ("Refused", "even"))
            for value in (TOLD[0], None, (), 5):
                self.assertEqual(raised(is_middle, SIX, pairings, value), ("Refused", "even"))

    def test_is_middle(self):
        self.assertIs(is_middle(SIX, TOLD, TOLD[1]), True)
        self.assertIs(is_middle(wishes=SIX, pairings=TOLD, value=TOLD[0]), False)
        for value in (TOLD[1][::-1], list(TOLD[1]), TOLD[1][:2], ((False, 4), (1, 5), (2, 3)), ((0, 4), (True, 5), (2, 3)),
                      ((0, 4.0), (1, 5), (2, 3)), ([0, 4], [1, 5], [2, 3]), TOLD[1] + ((6, 7),), (), None):
            self.assertIs(is_middle(SIX, TOLD, value), False, value)
        for value in zoo():
            self.assertIs(is_middle(SIX, TOLD, value), False)
            self.assertIs(is_middle(wishes_of((), ()), ((),), value), False)
        for value in wrong_forms(TOLD[1]):
            self.assertIs(is_middle(SIX, TOLD, value), naive.is_pairing(SIX, value) and value == TOLD[1])

    def test_against_the_words(self):
        chance = random.Random(58)
        for wishes in many_wishes(58, 200, 8, 4) + [SIX, squares(1), squares(2), squares(3), ring_wishes(10)]:
            found = lasting_pairings(wishes)
            for _ in range(6 if found else 0):
                pairings = tuple(chance.choices(found, k=chance.choice((1, 3, 5, 7))))
                middle = middle_pairing(wishes, pairings)
                self.assertIn(middle, found)
                self.assertIs(is_middle(wishes, pairings, middle), True)
                for person in naive.persons(wishes):
                    ranks = sorted(naive.rank(wishes, person, naive.mate(pairing, person)) for pairing in pairings)
                    rank = naive.rank(wishes, person, naive.mate(middle, person))
                    self.assertEqual(rank, ranks[len(ranks) // 2])
                least = sum(difference(wishes, middle, pairing) for pairing in pairings)
                for other in naive.pairings(wishes) if len(wishes.names) < 7 else found:
                    self.assertLessEqual(least, sum(difference(wishes, other, pairing) for pairing in pairings))

    def test_a_middle_that_is_none_of_the_pairings(self):
        first, other = ((0, 1), (2, 3)), ((0, 3), (1, 2))
        rows = ((first, first, other), (first, other, first), (other, first, first))
        pairings = tuple(put_together(row) for row in rows)
        middle = put_together((first, first, first))
        self.assertEqual(middle_pairing(squares(3), pairings), middle)
        self.assertIs(is_middle(squares(3), pairings, middle), True)
        self.assertIs(is_middle(squares(3), pairings, pairings[0]), False)


def put_together(parts):
    """The pairing with one of these for each piece of four persons."""
    return tuple((4 * at + i, 4 * at + j) for at, part in enumerate(parts) for i, j in part)


class DifferenceTest(unittest.TestCase):
    def test_ordinary(self):
        self.assertEqual(difference(SIX, TOLD[0], TOLD[2]), 12)
        self.assertEqual(difference(SIX, TOLD[0], TOLD[0]), 0)
        self.assertEqual(difference(SIX, TOLD[0], ()), 3 + 3 + 3 + 1 + 1 + 1)
        self.assertEqual(difference(wishes=SIX, one=(), other=((0, 5),)), 1 + 3)
        self.assertEqual(difference(SIX, ((0, 3),), ((0, 5),)), 2 + 1 + 3)

    def test_against_the_words(self):
        chance = random.Random(59)
        for wishes in many_wishes(59, 30, 6):
            pairings = naive.pairings(wishes)
            for _ in range(10):
                one, other = chance.choice(pairings), chance.choice(pairings)
                apart = [abs(naive.rank(wishes, person, naive.mate(one, person)) - naive.rank(wishes, person, naive.mate(other, person)))
                         for person in naive.persons(wishes)]
                self.assertEqual(difference(wishes, one, other), sum(apart))


if __name__ == "__main__":
    unittest.main()
