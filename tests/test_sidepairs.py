"""Point 26: the lasting pairing that is best for one side."""

import unittest

from lastpairs.plain import is_lasting
from lastpairs.sidepairs import side_pairing
from lastpairs.sides import sides_or_ring
from tests import naive
from tests.helpers import crossed, many_wishes, side_by_side, squares, two_sided_ring, wishes_of

KITE = wishes_of((1, 3), (2, 0), (3, 1), (0, 2, 4), (3,))


class SidePairingTest(unittest.TestCase):
    def test_ordinary(self):
        self.assertEqual(side_pairing(KITE, (0, 1, 0, 1, 0), 0), ((0, 1), (2, 3)))
        self.assertEqual(side_pairing(wishes=KITE, sides=(0, 1, 0, 1, 0), side=1), ((0, 3), (1, 2)))
        self.assertEqual(side_pairing(KITE, (1, 0, 1, 0, 1), 1), ((0, 1), (2, 3)))
        # Each piece has sides of its own.
        self.assertEqual(side_pairing(squares(2), (0, 1, 0, 1, 1, 0, 1, 0), 0), ((0, 1), (2, 3), (4, 7), (5, 6)))

    def test_nobody(self):
        for side in (0, 1):
            self.assertEqual(side_pairing(wishes_of(()), (side,), side), ())
            self.assertEqual(side_pairing(wishes_of(()), (1 - side,), side), ())
            self.assertEqual(side_pairing(wishes_of(*[()] * 60), (1,) * 60, side), ())

    def test_best_and_worst(self):
        done = 0
        two_sided = [wishes for wishes in many_wishes(26, 400, 8, 3) if sides_or_ring(wishes)[0] == "sides"]
        for wishes in two_sided + [squares(1), squares(2), crossed(2), crossed(4), wishes_of(*two_sided_ring(8))]:
            sides = sides_or_ring(wishes)[1]
            lasting = naive.lasting(wishes)
            for side in (0, 1):
                pairing = side_pairing(wishes, sides, side)
                self.assertIn(pairing, lasting)
                for person in naive.persons(wishes):
                    ranks = [naive.rank(wishes, person, naive.mate(other, person)) for other in lasting]
                    extreme = min(ranks) if sides[person] == side else max(ranks)
                    self.assertEqual(naive.rank(wishes, person, naive.mate(pairing, person)), extreme)
                done += len(lasting) > 1
        self.assertGreater(done, 8)

    def test_sixty_persons(self):
        for wishes in (squares(15), wishes_of(*two_sided_ring(60)), side_by_side(crossed(16), squares(7))):
            sides = sides_or_ring(wishes)[1]
            for side in (0, 1):
                self.assertTrue(is_lasting(wishes, side_pairing(wishes, sides, side)))
        self.assertEqual(side_pairing(wishes_of(*two_sided_ring(60)), (0, 1) * 30, 0), tuple((at, at + 1) for at in range(0, 60, 2)))


if __name__ == "__main__":
    unittest.main()
