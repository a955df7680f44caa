"""Point 72: one person of each odd ring set aside."""

import unittest
from itertools import product

from lastpairs.asides import aside_pairing, asides_of, calmest_aside, great_calm_pairing, is_aside
from lastpairs.partings import parting_of
from lastpairs.wishes import Wishes
from tests import naive
from tests.helpers import is_plain, many_wishes, raised, ring_wishes, round_rings, sixties, squares, wishes_of, wrong_forms, zoo

NEAR = Wishes(("elm", "fir", "oak", "yew"), ((1, 2, 3), (2, 0, 3), (0, 1, 3), (0, 1, 2)))
PARTING = (1, 2, 0, 3)
SHAPES = [squares(1), round_rings(3, 3), round_rings(5), round_rings(5, 2), round_rings(4, 3), round_rings(6), ring_wishes(6), NEAR]


def round_parting(*lengths):
    """A parting whose rings are of so many persons, one behind the other."""
    parting = []
    for many in lengths:
        first = len(parting)
        parting += [first + (at + 1) % many for at in range(many)]
    return tuple(parting)


def fits(parting, lot):
    rings = naive.odd_rings(parting)
    return len(lot) == len(rings) and all(len(set(ring) & set(lot)) == 1 for ring in rings)


def aside_by_words(parting, lot):
    pairs = []
    for ring in naive.rings(parting):
        if len(ring) % 2 and len(ring) > 1:
            at = next(at for at, person in enumerate(ring) if person in lot)
            ring = ring[at + 1:] + ring[:at]
        pairs += zip(ring[::2], ring[1::2])
    return tuple(sorted((min(pair), max(pair)) for pair in pairs))


class LotsThatFitTest(unittest.TestCase):
    def test_ordinary(self):
        self.assertEqual(asides_of(PARTING), ((0,), (1,), (2,)))
        self.assertIs(is_aside(PARTING, (1,)), True)
        for value in ((), (3,), (0, 1), (0, 3), (4,), (-1,), [0], 0, None, (False,), (True,), (1.0,), ("0",), ((0,),)):
            self.assertIs(is_aside(parting=PARTING, value=value), False, value)
        two = (1, 2, 0, 4, 5, 3)
        self.assertEqual(asides_of(parting=two), tuple(product((0, 1, 2), (3, 4, 5))))
        for value in ((5, 0), (0,), (0, 1), (3, 4), (0, 0), (0, 3, 4), (0, 0, 3)):
            self.assertIs(is_aside(two, value), False, value)
        # Rings whose persons are mixed: lots are ascending, and so is the tuple of them.
        mixed = (2, 3, 4, 5, 0, 1)
        self.assertEqual(asides_of(mixed), ((0, 1), (0, 3), (0, 5), (1, 2), (1, 4), (2, 3), (2, 5), (3, 4), (4, 5)))

    def test_no_odd_ring(self):
        for parting in ((0,), (1, 0), (1, 2, 3, 0), (0, 1, 2), tuple(range(60)), tuple(at ^ 1 for at in range(60))):
            self.assertEqual(asides_of(parting), ((),))
            self.assertIs(is_aside(parting, ()), True)
            self.assertIs(is_aside(parting, (0,)), False)
            pairs = tuple((at, at ^ 1) for at in range(0, 60, 2)) if parting[0] == 1 else ()
            if len(parting) in (2, 60):
                self.assertEqual(aside_pairing(parting, ()), pairs[:len(parting) // 2])

    def test_two_thousand_and_more(self):
        self.assertEqual(len(asides_of(round_parting(3, 5, 7, 19))), 1995)
        self.assertEqual(asides_of(round_parting(3, 5, 7, 19, 2, 4, 1))[-1], (2, 7, 14, 33))
        self.assertEqual(raised(asides_of, round_parting(3, 23, 29)), ("Refused", "size"))
        self.assertEqual(raised(asides_of, round_parting(*[3] * 20)), ("Refused", "size"))
        self.assertEqual(raised(calmest_aside, round_rings(3, 23, 29), round_parting(3, 23, 29)), ("Refused", "size"))
        self.assertEqual(raised(calmest_aside, round_rings(*[3] * 20), round_parting(*[3] * 20)), ("Refused", "size"))

    def test_against_the_words(self):
        for wishes in many_wishes(72, 40, 6, 3) + SHAPES:
            for parting in naive.partings(wishes):
                lots = [lot for lot in naive.lots(naive.persons(wishes)) if fits(parting, lot)]
                self.assertEqual(asides_of(parting), tuple(lots))
        for parting in [(1, 2, 0, 3, 5, 6, 4), (1, 0, 3, 4, 2), (2, 3, 4, 5, 0, 1)]:
            for lot in naive.lots(range(len(parting))):
                self.assertIs(is_aside(parting, lot), fits(parting, lot))

    def test_any_values(self):
        two = (1, 2, 0, 4, 5, 3)
        for value in zoo():
            for parting in (PARTING, two):
                self.assertIs(is_aside(parting, value), False)
                self.assertEqual(raised(aside_pairing, parting, value), ("Refused", "persons"))
        for value in wrong_forms((0, 4)):
            fine = is_plain(value) and value in asides_of(two)
            self.assertIs(is_aside(two, value), fine)
            self.assertEqual(raised(aside_pairing, two, value), None if fine else ("Refused", "persons"))


class AsidePairingTest(unittest.TestCase):
    def test_ordinary(self):
        self.assertEqual(aside_pairing(PARTING, (0,)), ((1, 2),))
        self.assertEqual(aside_pairing(PARTING, (1,)), ((0, 2),))
        self.assertEqual(aside_pairing(parting=(1, 2, 3, 4, 0), persons=(1,)), ((0, 4), (2, 3)))
        self.assertEqual(aside_pairing((1, 2, 3, 4, 0), (0,)), ((1, 2), (3, 4)))
        # An even ring is split for its least person, whoever is set aside.
        self.assertEqual(aside_pairing((1, 2, 3, 0, 5, 6, 4, 8, 7, 9), (5,)), ((0, 1), (2, 3), (4, 6), (7, 8)))
        for value in ((), (3,), (0, 1), [0], (True,)):
            self.assertEqual(raised(aside_pairing, PARTING, value), ("Refused", "persons"), value)

    def test_against_the_words(self):
        blocked = 0
        for wishes in many_wishes(720, 150, 6, 2) + SHAPES:
            most = max(len(pairing) for pairing in naive.pairings(wishes) if not naive.calm_blocks(wishes, pairing))
            for parting in naive.lasting_partings(wishes):
                best = []
                for lot in asides_of(parting):
                    pairing = aside_pairing(parting, lot)
                    self.assertEqual(pairing, aside_by_words(parting, lot))
                    # It is calm, and no calm pairing has more pairs; who is set aside is in each pair that blocks it.
                    self.assertEqual(naive.calm_blocks(wishes, pairing), ())
                    self.assertEqual(len(pairing), most)
                    blocks = naive.blocks(wishes, pairing)
                    self.assertTrue(all(set(pair) & set(lot) for pair in blocks))
                    best.append((len(blocks), lot))
                    blocked += bool(blocks)
                self.assertEqual(calmest_aside(wishes, parting), min(best))
            great = great_calm_pairing(wishes)
            self.assertIn(great, naive.pairings(wishes))
            self.assertEqual((naive.calm_blocks(wishes, great), len(great)), ((), most))
        self.assertGreater(blocked, 40)

    def test_calmest(self):
        # Whoever is set aside blocks with the one before it on the ring, and with 3.
        self.assertEqual(calmest_aside(wishes=NEAR, parting=PARTING), (2, (0,)))
        # Here only 0 would have 3.
        later = wishes_of((1, 2, 3), (2, 0), (0, 1), (0,))
        self.assertEqual(calmest_aside(later, PARTING), (1, (1,)))
        self.assertEqual(calmest_aside(squares(1), (1, 2, 3, 0)), (0, ()))
        self.assertEqual(calmest_aside(wishes_of(()), (0,)), (0, ()))

    def test_great_calm_pairings(self):
        self.assertIn(great_calm_pairing(NEAR), (((1, 2),), ((0, 2),), ((0, 1),)))
        self.assertEqual(great_calm_pairing(wishes=wishes_of(())), ())
        self.assertEqual(great_calm_pairing(wishes_of(*[()] * 60)), ())

    def test_sixty_persons(self):
        for wishes in sixties():
            parting = parting_of(wishes)
            great = great_calm_pairing(wishes)
            left = 60 - len(naive.singles(parting)) - len(naive.odd_rings(parting))
            self.assertEqual(len(great) * 2, left)
            self.assertEqual(naive.calm_blocks(wishes, great), ())
            lot = tuple(sorted(ring[-1] for ring in naive.odd_rings(parting)))
            self.assertEqual(aside_pairing(parting, lot), aside_by_words(parting, lot))
        wishes, parting = round_rings(3, 5, 7, 19), round_parting(3, 5, 7, 19)
        self.assertEqual(calmest_aside(wishes, parting), (4, (0, 3, 8, 15)))


if __name__ == "__main__":
    unittest.main()
