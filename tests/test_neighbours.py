"""Point 36: who blocks beside a parting."""

import unittest

from lastpairs.neighbours import blocking_neighbours, is_unblocked_beside, strays
from tests import naive
from tests.helpers import many_wishes, round_rings, squares, wishes_of

FOUR = wishes_of((1, 2, 3), (2, 0, 3), (0, 1, 3), (0, 1, 2))
PARTING = (1, 2, 0, 3)


class NeighboursTest(unittest.TestCase):
    def test_ordinary(self):
        self.assertEqual(blocking_neighbours(FOUR, PARTING, ((0, 1), (2, 3))), ((1, 2),))
        self.assertEqual(blocking_neighbours(FOUR, PARTING, ((0, 2),)), ((0, 1),))
        self.assertEqual(blocking_neighbours(wishes=FOUR, parting=PARTING, pairing=()), ((0, 1), (0, 2), (1, 2)))
        self.assertIs(is_unblocked_beside(wishes=FOUR, parting=PARTING, pairing=()), False)
        self.assertIs(is_unblocked_beside(FOUR, (0, 1, 2, 3), ()), True)
        self.assertIs(is_unblocked_beside(squares(1), (1, 2, 3, 0), ((0, 1), (2, 3))), True)

    def test_strays(self):
        self.assertEqual(strays(FOUR, PARTING, ((0, 1), (2, 3))), (3,))
        self.assertEqual(strays(FOUR, PARTING, ((0, 2),)), (1,))
        self.assertEqual(strays(wishes=FOUR, parting=PARTING, pairing=()), (0, 1, 2))
        self.assertEqual(strays(squares(1), (1, 2, 3, 0), ((0, 3), (1, 2))), ())
        self.assertEqual(strays(wishes_of(()), (0,), ()), ())
        self.assertEqual(strays(squares(15), tuple(range(60)), ((0, 1),)), (0, 1))

    def test_against_the_words(self):
        odd = even = 0
        for wishes in many_wishes(36, 90, 6) + [squares(1), round_rings(6), round_rings(3, 2), round_rings(4, 1), round_rings(3, 3)]:
            pairings = naive.pairings(wishes)
            for parting in naive.lasting_partings(wishes):
                for pairing in pairings:
                    blocks = tuple(pair for pair in naive.nearby(parting) if pair in naive.blocks(wishes, pairing))
                    self.assertEqual(blocking_neighbours(wishes, parting, pairing), blocks)
                    self.assertIs(is_unblocked_beside(wishes, parting, pairing), not blocks)
                    stray = tuple(p for p in naive.persons(wishes) if (p in naive.singles(parting)) != (naive.mate(pairing, p) is None))
                    self.assertEqual(strays(wishes, parting, pairing), stray)
                    if naive.odd_rings(parting):
                        self.assertTrue(blocks)
                        odd += 1
                    elif not blocks:
                        self.assertEqual(stray, ())
                        even += 1
        self.assertGreater(odd, 100)
        self.assertGreater(even, 50)

    def test_partings_that_do_not_last(self):
        for wishes in many_wishes(360, 15, 4):
            for parting in naive.partings(wishes):
                for pairing in naive.pairings(wishes):
                    blocks = tuple(pair for pair in naive.nearby(parting) if pair in naive.blocks(wishes, pairing))
                    self.assertEqual(blocking_neighbours(wishes, parting, pairing), blocks)

    def test_sixty_persons(self):
        pairs = tuple((at, at + 1) for at in range(0, 60, 2))
        self.assertEqual(blocking_neighbours(squares(15), tuple(at ^ 3 for at in range(60)), ()), tuple(sorted((at, at ^ 3) for at in range(60) if at < at ^ 3)))
        self.assertIs(is_unblocked_beside(squares(15), tuple(at ^ 3 for at in range(60)), pairs), True)


if __name__ == "__main__":
    unittest.main()
