"""Points 33 and 35: lasting partings, their odd rings and single persons, and pairings made of them."""

import unittest

from lastpairs.partings import (
    barring_ring, lasting_pairing, odd_rings, odd_rings_in, pairing_by, parting_of, single_in_parting, single_persons,
    split_parting,
)
from lastpairs.plainpartings import is_lasting_parting, split_ring
from lastpairs.wishes import Wishes
from tests import naive
from tests.helpers import many_wishes, raised, ring_wishes, round_rings, sixties, squares, wishes_of

FOUR = Wishes(("a", "b", "c", "d"), ((1, 2, 3), (2, 0, 3), (0, 1, 3), (0, 1, 2)))
SHAPES = [round_rings(3), round_rings(5), round_rings(3, 3), round_rings(4), round_rings(4, 3), round_rings(6), round_rings(2, 1, 3), squares(1)]


def split_by_words(parting):
    """Each even ring falls into pairs: its least person with its next one, the one behind with its next one."""
    after = list(parting)
    for ring in naive.rings(parting):
        if len(ring) % 2 == 0:
            for one, other in zip(ring[::2], ring[1::2]):
                after[one], after[other] = other, one
    return tuple(after)


class OfPartingsTest(unittest.TestCase):
    def test_ordinary(self):
        parting = (1, 2, 0, 3, 5, 4, 7, 8, 9, 6, 10)
        self.assertEqual(odd_rings_in(parting), ((0, 1, 2),))
        self.assertEqual(odd_rings_in(parting=(2, 0, 1, 5, 3, 4)), ((0, 2, 1), (3, 5, 4)))
        self.assertEqual(single_in_parting(parting), (3, 10))
        self.assertEqual(single_in_parting(parting=(1, 0)), ())
        self.assertEqual(split_parting(parting), (1, 2, 0, 3, 5, 4, 7, 6, 9, 8, 10))
        self.assertEqual(split_parting(parting=(3, 0, 1, 2)), (3, 2, 1, 0))
        self.assertEqual(pairing_by((3, 0, 1, 2)), ((0, 3), (1, 2)))
        self.assertEqual(pairing_by(parting=(1, 2, 3, 0, 4, 6, 5)), ((0, 1), (2, 3), (5, 6)))
        self.assertEqual(raised(pairing_by, parting), ("Refused", "ring"))
        self.assertEqual(raised(pairing_by, (1, 2, 0)), ("Refused", "ring"))

    def test_single_persons_alone(self):
        for many in (1, 2, 60):
            nobody = tuple(range(many))
            self.assertEqual(odd_rings_in(nobody), ())
            self.assertEqual(single_in_parting(nobody), nobody)
            self.assertEqual(split_parting(nobody), nobody)
            self.assertEqual(pairing_by(nobody), ())

    def test_against_the_words(self):
        for wishes in many_wishes(35, 40, 6, 2) + SHAPES:
            for parting in naive.partings(wishes):
                odd = naive.odd_rings(parting)
                self.assertEqual(odd_rings_in(parting), odd)
                self.assertEqual(single_in_parting(parting), naive.singles(parting))
                split = split_parting(parting)
                self.assertEqual(split, split_by_words(parting))
                for ring in naive.rings(parting):
                    if len(ring) % 2 == 0:
                        self.assertEqual([split_ring(parting, ring[0])[one] for one in ring], [split[one] for one in ring])
                if odd:
                    self.assertEqual(raised(pairing_by, parting), ("Refused", "ring"))
                else:
                    self.assertEqual(pairing_by(parting), tuple((one, other) for one, other in enumerate(split) if one < other))

    def test_what_is_split_still_lasts(self):
        for wishes in many_wishes(350, 60, 6, 2) + SHAPES:
            for parting in naive.lasting_partings(wishes):
                self.assertTrue(naive.does_parting_last(wishes, split_parting(parting)))
                if not naive.odd_rings(parting):
                    self.assertIn(pairing_by(parting), naive.lasting(wishes))


class OfWishesTest(unittest.TestCase):
    def test_ordinary(self):
        self.assertEqual(parting_of(FOUR), (1, 2, 0, 3))
        self.assertEqual(odd_rings(FOUR), ((0, 1, 2),))
        self.assertEqual(single_persons(FOUR), (3,))
        self.assertEqual(barring_ring(FOUR), (0, 1, 2))
        self.assertIsNone(lasting_pairing(FOUR))
        self.assertIn(lasting_pairing(wishes=squares(1)), (((0, 1), (2, 3)), ((0, 3), (1, 2))))
        self.assertIsNone(barring_ring(wishes=squares(1)))
        self.assertEqual(odd_rings(wishes=squares(1)), ())
        self.assertEqual(single_persons(wishes=squares(1)), ())
        self.assertEqual(odd_rings(round_rings(1, 3, 2, 5)), ((1, 2, 3), (6, 7, 8, 9, 10)))
        self.assertEqual(barring_ring(round_rings(1, 3, 2, 5)), (1, 2, 3))
        self.assertEqual(single_persons(round_rings(1, 3, 2, 1)), (0, 6))

    def test_nobody(self):
        for many in (1, 60):
            wishes = wishes_of(*[()] * many)
            self.assertEqual(parting_of(wishes=wishes), tuple(range(many)))
            self.assertEqual((odd_rings(wishes), barring_ring(wishes)), ((), None))
            self.assertEqual(single_persons(wishes), tuple(range(many)))
            self.assertEqual(lasting_pairing(wishes), ())

    def test_against_the_words(self):
        with_rings = without = 0
        for wishes in many_wishes(33, 200, 6) + SHAPES + [ring_wishes(6), ring_wishes(5)]:
            partings, pairings = naive.lasting_partings(wishes), naive.lasting(wishes)
            self.assertIn(parting_of(wishes), partings)
            for parting in partings:
                self.assertEqual(odd_rings(wishes), naive.odd_rings(parting))
                self.assertEqual(single_persons(wishes), naive.singles(parting))
            rings = naive.odd_rings(partings[0])
            self.assertEqual(barring_ring(wishes), rings[0] if rings else None)
            # There is a lasting pairing exactly if there is no odd ring.
            self.assertEqual(bool(pairings), not rings)
            if rings:
                self.assertIsNone(lasting_pairing(wishes))
                with_rings += 1
            else:
                self.assertIn(lasting_pairing(wishes), pairings)
                without += 1
        self.assertGreater(with_rings, 15)
        self.assertGreater(without, 50)

    def test_sixty_persons(self):
        for wishes in sixties():
            parting = parting_of(wishes)
            self.assertTrue(is_lasting_parting(wishes, parting))
            self.assertEqual(odd_rings(wishes), naive.odd_rings(parting))
            self.assertEqual(single_persons(wishes), naive.singles(parting))
            pairing = lasting_pairing(wishes)
            if naive.odd_rings(parting):
                self.assertIsNone(pairing)
            else:
                self.assertEqual(naive.blocks(wishes, pairing), ())
        self.assertEqual(odd_rings(round_rings(59, 1)), (tuple(range(59)),))
        self.assertEqual(len(odd_rings(round_rings(*[3] * 20))), 20)


if __name__ == "__main__":
    unittest.main()
