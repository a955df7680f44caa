"""Point 17: two pairings."""

import random
import unittest

from lastpairs.between import gainers, rings_between
from lastpairs.plain import lasting_pairings
from tests import naive
from tests.helpers import many_wishes, raised, squares, wishes_of

FIVE = wishes_of((1, 3), (2, 0), (3, 1), (0, 2, 4), (3,))


class BetweenTest(unittest.TestCase):
    def test_ordinary(self):
        one, other = ((0, 1), (2, 3)), ((0, 3), (1, 2))
        self.assertEqual(rings_between(one, other), ((0, 1, 2, 3),))
        self.assertEqual(rings_between(one=other, other=one), ((0, 3, 2, 1),))
        self.assertEqual(gainers(FIVE, one, other), (0, 2))
        self.assertEqual(gainers(wishes=FIVE, one=other, other=one), (1, 3))
        self.assertEqual(rings_between(one, one), ())
        self.assertEqual(rings_between((), ()), ())
        self.assertEqual(gainers(FIVE, one, one), ())

    def test_several_rings(self):
        one = ((0, 7), (1, 2), (3, 4), (5, 6), (8, 9))
        other = ((0, 2), (1, 7), (3, 5), (4, 6), (8, 9))
        self.assertEqual(rings_between(one, other), ((0, 7, 1, 2), (3, 4, 6, 5)))
        self.assertEqual(rings_between(((0, 5), (1, 3), (2, 4)), ((0, 1), (2, 5), (3, 4))), ((0, 5, 2, 4, 3, 1),))

    def test_single_in_just_one(self):
        for one, other in (((), ((0, 1),)), (((0, 1),), ()), (((0, 1),), ((1, 2),)), (((0, 1), (2, 3)), ((1, 2), (3, 4)))):
            self.assertEqual(raised(rings_between, one, other), ("Refused", "way"))

    def test_gainers_of_any_pairings(self):
        self.assertEqual(gainers(FIVE, ((3, 4),), ()), (3, 4))
        self.assertEqual(gainers(FIVE, (), ((3, 4),)), ())
        self.assertEqual(gainers(FIVE, ((0, 3),), ((0, 1),)), (3,))
        for wishes in many_wishes(17, 30, 6):
            pairings = naive.pairings(wishes)
            chance = random.Random(len(pairings))
            for _ in range(10):
                one, other = chance.choice(pairings), chance.choice(pairings)
                self.assertEqual(gainers(wishes, one, other), tuple(
                    person for person in naive.persons(wishes)
                    if naive.rather(wishes, person, naive.mate(one, person), naive.mate(other, person))
                ))
                self.check_rings(one, other)

    def check_rings(self, one, other):
        """The rings, as the words tell them one by one, or that they are refused."""
        paired = sorted(person for pair in one for person in pair)
        if paired != sorted(person for pair in other for person in pair):
            self.assertEqual(raised(rings_between, one, other), ("Refused", "way"))
            return
        unlike = [person for person in paired if naive.mate(one, person) != naive.mate(other, person)]
        rings = rings_between(one, other)
        self.assertEqual(sorted(person for ring in rings for person in ring), unlike)
        self.assertEqual(list(rings), sorted(rings))
        for ring in rings:
            self.assertEqual(ring[0], min(ring))
            for at, person in enumerate(ring):
                mate = naive.mate(other if at % 2 else one, person)
                self.assertEqual(mate, ring[(at + 1) % len(ring)])

    def test_between_lasting_pairings(self):
        for wishes in many_wishes(18, 300, 9, 4) + [squares(2), squares(3)]:
            found = lasting_pairings(wishes)
            for one in found:
                for other in found:
                    self.check_rings(one, other)
                    gaining = gainers(wishes, one, other)
                    losing = gainers(wishes, other, one)
                    for ring in rings_between(one, other):
                        self.assertIn(ring[::2], (tuple(p for p in ring if p in gaining), tuple(p for p in ring if p in losing)))
                        self.assertEqual(len([p for p in ring if p in gaining]), len(ring) // 2)
                        self.assertEqual(len([p for p in ring if p in losing]), len(ring) // 2)


if __name__ == "__main__":
    unittest.main()
