"""Point 73: persons who are away."""

import unittest
from itertools import combinations

from lastpairs.away import fewest_away, is_away, least_aways, others_pairing
from lastpairs.partings import parting_of
from lastpairs.remade import without_persons
from lastpairs.wishes import Wishes
from tests import naive
from tests.helpers import (
    is_plain, many_wishes, raised, ring_wishes, round_rings, side_by_side, sixties, squares, wishes_of, wrong_forms, zoo,
)

NEAR = Wishes(("elm", "fir", "oak", "yew"), ((1, 2, 3), (2, 0, 3), (0, 1, 3), (0, 1, 2)))
SHAPES = [squares(1), round_rings(3, 3), round_rings(5), round_rings(5, 2), round_rings(3, 2, 1), ring_wishes(6), NEAR]


def lasting_without(wishes, persons):
    """All lasting pairings of the others, by their numbers in the wishes."""
    others = [person for person in naive.persons(wishes) if person not in persons]
    if not others:
        return [()]
    return [tuple((others[i], others[j]) for i, j in pairing) for pairing in naive.lasting(without_persons(wishes, persons))]


class AwayTest(unittest.TestCase):
    def test_ordinary(self):
        self.assertEqual(fewest_away(NEAR), 1)
        self.assertEqual(least_aways(NEAR), ((0,), (1,), (2,)))
        self.assertEqual(others_pairing(NEAR, (2,)), ((0, 1),))
        self.assertIsNone(others_pairing(wishes=NEAR, persons=(3,)))
        self.assertIsNone(others_pairing(NEAR, ()))
        self.assertIs(is_away(NEAR, (0,)), True)
        self.assertIs(is_away(wishes=NEAR, value=(3,)), False)
        self.assertIs(is_away(NEAR, ()), False)
        self.assertEqual(fewest_away(wishes=squares(2)), 0)
        self.assertEqual(least_aways(wishes=squares(2)), ((),))
        self.assertIs(is_away(squares(2), ()), True)
        self.assertEqual(least_aways(round_rings(3, 1, 3)), tuple((one, other) for one in (0, 1, 2) for other in (4, 5, 6)))

    def test_everybody_and_nobody(self):
        for wishes in (NEAR, squares(1), wishes_of(()), ring_wishes(60)):
            everybody = tuple(naive.persons(wishes))
            self.assertEqual(others_pairing(wishes, everybody), ())
            self.assertIs(is_away(wishes, everybody), True)
        for many in (1, 60):
            wishes = wishes_of(*[()] * many)
            self.assertEqual((others_pairing(wishes, ()), others_pairing(wishes, (0,))), ((), ()))
            self.assertIs(is_away(wishes, ()), True)
            self.assertEqual((fewest_away(wishes), least_aways(wishes)), (0, ((),)))

    def test_against_the_words(self):
        beside = 0
        for wishes in many_wishes(73, 150, 6) + SHAPES:
            found = []
            for lot in naive.lots(naive.persons(wishes)):
                pairings = lasting_without(wishes, lot)
                self.assertIs(is_away(wishes, lot), bool(pairings))
                if pairings:
                    self.assertIn(others_pairing(wishes, lot), pairings)
                    found.append(lot)
                else:
                    self.assertIsNone(others_pairing(wishes, lot))
            fewest = min(len(lot) for lot in found)
            self.assertEqual(fewest_away(wishes), fewest)
            self.assertEqual(least_aways(wishes), tuple(lot for lot in found if len(lot) == fewest))
            for parting in naive.lasting_partings(wishes):
                rings = naive.odd_rings(parting)
                # The fewest are as many as there are odd rings; each lot that fits is one of the least.
                self.assertEqual(fewest, len(rings))
                fit = {lot for lot in combinations(naive.persons(wishes), fewest) if all(set(lot) & set(ring) for ring in rings)}
                self.assertLessEqual(fit, set(least_aways(wishes)))
                beside += fit < set(least_aways(wishes))
        self.assertGreater(beside, 0)

    def test_others_than_those_that_fit(self):
        # Without 3 there is a lasting pairing, too, though 3 is on no odd ring: 1 has 4 then.
        wishes = wishes_of((1, 2), (2, 4, 0), (0, 1), (4,), (3, 1))
        self.assertEqual(least_aways(wishes), ((0,), (1,), (2,), (3,)))
        self.assertEqual(others_pairing(wishes, (3,)), ((0, 2), (1, 4)))

    def test_two_thousand_lots_and_more(self):
        three = [round_rings(3, 3, 3)]
        # 1771 lots of three of 23 persons; 2024 of 24.
        self.assertEqual(least_aways(side_by_side(*three, wishes_of(*[()] * 14))), tuple(
            (one, other, third) for one in (0, 1, 2) for other in (3, 4, 5) for third in (6, 7, 8)
        ))
        self.assertEqual(raised(least_aways, side_by_side(*three, wishes_of(*[()] * 15))), ("Refused", "size"))
        self.assertEqual(raised(least_aways, round_rings(*[3] * 20)), ("Refused", "size"))
        self.assertEqual(len(least_aways(round_rings(29, 31))), 29 * 31)

    def test_any_values(self):
        for value in zoo():
            for wishes in (NEAR, wishes_of(())):
                empty = type(value) is tuple and not value
                self.assertIs(is_away(wishes, value), empty and wishes != NEAR)
        for value in wrong_forms((0, 2)):
            fine = is_plain(value) and value in naive.lots(range(4)) and bool(lasting_without(NEAR, value))
            self.assertIs(is_away(NEAR, value), fine)
        for value in ([0], (2, 0), (0, 0), (False,), (0, True), (4,), (-1,), (0.0,), 0, None):
            self.assertIs(is_away(NEAR, value), False, value)

    def test_sixty_persons(self):
        for wishes in sixties():
            rings = naive.odd_rings(parting_of(wishes))
            self.assertEqual(fewest_away(wishes), len(rings))
            lot = tuple(ring[-1] for ring in rings)
            self.assertIs(is_away(wishes, tuple(sorted(lot))), True)
            pairing = others_pairing(wishes, tuple(sorted(lot)))
            self.assertTrue(all(set(pair) & set(lot) for pair in naive.blocks(wishes, pairing)))
            self.assertFalse({person for pair in pairing for person in pair} & set(lot))


if __name__ == "__main__":
    unittest.main()
