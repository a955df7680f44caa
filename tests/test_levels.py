"""Point 61: levels of lasting pairings between two sides."""

import random
import unittest

from lastpairs.levels import level_pairing
from lastpairs.plain import is_lasting, lasting_pairings
from lastpairs.sidepairs import side_pairing
from lastpairs.sides import sides_or_ring
from tests import naive
from tests.helpers import crossed, many_wishes, raised, side_by_side, squares, two_sided_ring, wishes_of, wrong_forms, zoo

SIX = wishes_of((3, 4, 5), (4, 5, 3), (5, 3, 4), (1, 2, 0), (2, 0, 1), (0, 1, 2))
SIDES = (0, 0, 0, 1, 1, 1)
TOLD = (((0, 3), (1, 4), (2, 5)), ((0, 4), (1, 5), (2, 3)), ((0, 5), (1, 3), (2, 4)))


class LevelTest(unittest.TestCase):
    def test_ordinary(self):
        self.assertEqual(level_pairing(SIX, SIDES, (TOLD[2], TOLD[0]), 0), TOLD[0])
        self.assertEqual(level_pairing(SIX, SIDES, (TOLD[2], TOLD[0]), 1), TOLD[2])
        self.assertEqual(level_pairing(wishes=SIX, sides=SIDES[::-1], pairings=(TOLD[2], TOLD[0]), place=0), TOLD[2])
        self.assertEqual([level_pairing(SIX, SIDES, TOLD[::-1], place) for place in range(3)], list(TOLD))
        self.assertEqual(level_pairing(SIX, SIDES, (TOLD[1],), 0), TOLD[1])

    def test_places(self):
        pairings = (TOLD[0], TOLD[1], TOLD[1])
        self.assertEqual([level_pairing(SIX, SIDES, pairings, place) for place in range(3)], [TOLD[0], TOLD[1], TOLD[1]])
        for place in (3, 4, -1, 10**30, True, False, 0.0, 1.0, "0", None, (0,), [0]):
            self.assertEqual(raised(level_pairing, SIX, SIDES, pairings, place), ("Refused", "place"), place)
        for place in (0, 1, -1, None):
            self.assertEqual(raised(level_pairing, SIX, SIDES, (), place), ("Refused", "place"))
        for place in zoo() + list(wrong_forms(3)):
            self.assertEqual(raised(level_pairing, SIX, SIDES, pairings, place), ("Refused", "place"))

    def test_single_persons(self):
        self.assertEqual(level_pairing(wishes_of(()), (0,), ((), ()), 1), ())
        self.assertEqual(level_pairing(wishes_of((1,), (0, 2), (1,)), (0, 1, 0), (((0, 1),),) * 3, 2), ((0, 1),))
        self.assertEqual(level_pairing(wishes_of(*[()] * 60), (1,) * 60, ((),), 0), ())

    def test_pieces_apart(self):
        first, other = ((0, 1), (2, 3)), ((0, 3), (1, 2))
        mixed = (first + ((4, 7), (5, 6)), other + ((4, 5), (6, 7)))
        sides = (0, 1) * 4
        self.assertEqual(level_pairing(squares(2), sides, mixed, 0), first + ((4, 5), (6, 7)))
        self.assertEqual(level_pairing(squares(2), sides, mixed, 1), other + ((4, 7), (5, 6)))

    def test_against_the_words(self):
        chance, done = random.Random(61), 0
        two_sided = [wishes for wishes in many_wishes(61, 400, 8, 4) if sides_or_ring(wishes)[0] == "sides"]
        for wishes in two_sided + [SIX, squares(2), squares(3), crossed(4), wishes_of(*two_sided_ring(10))] * 4:
            found, sides = lasting_pairings(wishes), sides_or_ring(wishes)[1]
            pairings = tuple(chance.choices(found, k=chance.randrange(1, 7)))
            for place in range(len(pairings)):
                level = level_pairing(wishes, sides, pairings, place)
                self.assertIn(level, found)
                for person in naive.persons(wishes):
                    ranks = sorted(naive.rank(wishes, person, naive.mate(pairing, person)) for pairing in pairings)
                    told = ranks[place] if sides[person] == 0 else ranks[len(ranks) - 1 - place]
                    self.assertEqual(naive.rank(wishes, person, naive.mate(level, person)), told)
                done += len(set(pairings)) > 1
        self.assertGreater(done, 30)

    def test_sixty_persons(self):
        for wishes in (squares(15), wishes_of(*two_sided_ring(60)), side_by_side(crossed(16), squares(7))):
            sides = sides_or_ring(wishes)[1]
            best = [side_pairing(wishes, sides, side) for side in (0, 1)]
            self.assertEqual(level_pairing(wishes, sides, (best[1], best[0], best[1]), 0), best[0])
            self.assertEqual(level_pairing(wishes, sides, (best[1], best[0], best[1]), 1), best[1])
            self.assertTrue(is_lasting(wishes, best[0]))


if __name__ == "__main__":
    unittest.main()
