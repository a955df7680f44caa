"""Point 71: calm pairings."""

import unittest

from lastpairs.calm import calm_blocks, is_calm, most_calm, paired_persons
from lastpairs.wishes import Wishes
from tests import naive
from tests.helpers import many_wishes, ring_wishes, round_rings, sixties, squares, wishes_of, wrong_forms, zoo

NEAR = Wishes(("elm", "fir", "oak", "yew"), ((1, 2, 3), (2, 0, 3), (0, 1, 3), (0, 1, 2)))


class CalmTest(unittest.TestCase):
    def test_ordinary(self):
        self.assertEqual(most_calm(NEAR), 1)
        self.assertIs(is_calm(NEAR, ((0, 1),)), True)
        self.assertIs(is_calm(wishes=NEAR, value=((0, 1), (2, 3))), False)
        self.assertEqual(paired_persons(((0, 3), (1, 2))), (0, 1, 2, 3))
        self.assertEqual(paired_persons(pairing=((1, 4),)), (1, 4))
        self.assertEqual(calm_blocks(NEAR, ((0, 1), (2, 3))), ((1, 2),))
        # 1 and 2 block this one, but 2 is single.
        self.assertEqual(calm_blocks(wishes=NEAR, pairing=((0, 1),)), ())
        self.assertEqual(most_calm(wishes=squares(3)), 6)
        self.assertEqual(most_calm(round_rings(3, 5, 2, 1)), 4)

    def test_nobody(self):
        self.assertEqual(paired_persons(()), ())
        for many in (1, 60):
            wishes = wishes_of(*[()] * many)
            self.assertEqual(most_calm(wishes), 0)
            self.assertEqual(calm_blocks(wishes, ()), ())
            self.assertIs(is_calm(wishes, ()), True)
            self.assertIs(is_calm(wishes, ((0, 1),)), False)

    def test_against_the_words(self):
        for wishes in many_wishes(71, 100, 6) + [squares(1), round_rings(3, 3), round_rings(5), ring_wishes(6)]:
            calm = {}
            for pairing in naive.pairings(wishes):
                blocks = naive.calm_blocks(wishes, pairing)
                self.assertEqual(calm_blocks(wishes, pairing), blocks)
                self.assertIs(is_calm(wishes, pairing), not blocks)
                self.assertEqual(paired_persons(pairing), tuple(sorted(person for pair in pairing for person in pair)))
                calm[pairing] = not blocks
            self.assertEqual(most_calm(wishes), max(len(pairing) for pairing in calm if calm[pairing]))
            for pairing in calm:
                if calm[pairing]:
                    # A part of the pairs of a calm pairing is calm.
                    self.assertTrue(all(calm[part] for part in naive.lots(pairing)))

    def test_half_of_what_is_left(self):
        for wishes in many_wishes(710, 60, 6):
            for parting in naive.lasting_partings(wishes):
                left = len(parting) - len(naive.singles(parting)) - len(naive.odd_rings(parting))
                self.assertEqual(most_calm(wishes) * 2, left)

    def test_any_values(self):
        for value in zoo():
            self.assertIs(is_calm(NEAR, value), type(value) is tuple and not value)
        for value in list(wrong_forms(((0, 1),))) + list(wrong_forms(((0, 1), (2, 3)))):
            fine = naive.is_pairing(NEAR, value) and not naive.calm_blocks(NEAR, value)
            self.assertIs(is_calm(NEAR, value), fine)
        for value in ([(0, 1)], ([0, 1],), ((False, 1),), ((0, True),), ((1, 0),), ((0, 1), (0, 2)), ((0, 1.0),), ((2, 3), (0, 1)), None):
            self.assertIs(is_calm(NEAR, value), False, value)

    def test_sixty_persons(self):
        for wishes in sixties():
            self.assertIs(is_calm(wishes, ()), True)
            self.assertLessEqual(most_calm(wishes), 30)
        self.assertEqual(most_calm(round_rings(*[3] * 20)), 20)
        self.assertEqual(most_calm(round_rings(59, 1)), 29)
        self.assertEqual(most_calm(squares(15)), 30)


if __name__ == "__main__":
    unittest.main()
