"""Point 78: settling a lodging."""

import unittest

from lastpairs.lodgings import Lodging, is_deed, lodging_after
from lastpairs.settlings import is_settling, settling
from tests import naive
from tests.helpers import many_wishes, ring_wishes, round_rings, sixties, squares, wishes_of, wrong_forms, zoo

SQUARE = squares(1)
ODD = wishes_of((1, 2, 3), (2, 0, 3), (0, 1, 3), (0, 1, 2))
ONE, OTHER = ((0, 1), (2, 3)), ((0, 3), (1, 2))


def is_settling_by_words(wishes, value):
    if type(value) is not tuple or len(value) != 2 or type(value[0]) is not str:
        return False
    if value[0] == "settle":
        return naive.is_pairing(wishes, value[1]) and not naive.blocks(wishes, value[1])
    if value[0] != "ring" or not naive.is_parting(wishes, value[1]):
        return False
    return naive.does_parting_last(wishes, value[1]) and bool(naive.odd_rings(value[1]))


class SettlingTest(unittest.TestCase):
    def test_ordinary(self):
        # What lasts stays in force, whichever it is.
        for pairing in (ONE, OTHER):
            self.assertEqual(settling(Lodging(SQUARE, pairing)), ("settle", pairing))
        for pairing in ((), ((0, 1),), ((1, 2),)):
            self.assertIn(settling(lodging=Lodging(SQUARE, pairing)), (("settle", ONE), ("settle", OTHER)))
        for pairing in ((), ((0, 1),), ((0, 1), (2, 3))):
            self.assertEqual(settling(Lodging(ODD, pairing)), ("ring", (1, 2, 0, 3)))

    def test_one_alone_and_nobody(self):
        for many in (1, 60):
            wishes = wishes_of(*[()] * many)
            self.assertEqual(settling(Lodging(wishes, ())), ("settle", ()))
            self.assertIs(is_settling(wishes, ("settle", ())), True)
            self.assertIs(is_settling(wishes, ("ring", tuple(range(many)))), False)

    def test_is_settling(self):
        self.assertIs(is_settling(SQUARE, ("settle", ONE)), True)
        self.assertIs(is_settling(wishes=SQUARE, value=("settle", ())), False)
        self.assertIs(is_settling(ODD, ("ring", (1, 2, 0, 3))), True)
        # Partings without odd rings, or that do not last.
        for value in (("ring", (1, 2, 3, 0)), ("ring", (1, 0, 3, 2)), ("ring", (1, 2, 0, 3)), ("settle", (1, 0, 3, 2)), ("ring", ONE),
                      ("settle", ONE, ONE), ("settle",), ["settle", ONE], ("Settle", ONE), (ONE, "settle"), ("settle", list(ONE)), "settle", None):
            self.assertIs(is_settling(SQUARE, value), False, value)
        for value in (("ring", (2, 0, 1, 3)), ("ring", (0, 1, 2, 3)), ("settle", ((0, 1),)), ("settle", ()), ("ring", [1, 2, 0, 3]), ("ring", (True, 2, 0, 3)),
                      ("ring", (1, 2, False, 3)), ("ring", (1, 2, 0))):
            self.assertIs(is_settling(ODD, value), False, value)

    def test_against_the_words(self):
        words = []
        for wishes in many_wishes(78, 120, 6) + [squares(1), round_rings(3, 3), round_rings(4, 1), ring_wishes(6)]:
            lasting = naive.lasting(wishes)
            for pairing in naive.pairings(wishes)[:40]:
                value = settling(Lodging(wishes, pairing))
                self.assertTrue(is_settling_by_words(wishes, value))
                if pairing in lasting:
                    self.assertEqual(value, ("settle", pairing))
                self.assertEqual(value[0], "settle" if lasting else "ring")
                self.assertIs(is_settling(wishes, ("settle", pairing)), pairing in lasting)
                words.append(value[0])
            # There are such values of just one of the two forms.
            for parting in naive.lasting_partings(wishes):
                self.assertIs(is_settling(wishes, ("ring", parting)), not lasting)
        self.assertGreater(words.count("ring"), 50)

    def test_a_settling_that_settles_is_a_deed(self):
        for wishes in many_wishes(780, 40, 6):
            lodging = Lodging(wishes, ())
            value = settling(lodging)
            self.assertIs(is_deed(lodging, value), value[0] == "settle")
            if value[0] == "settle":
                self.assertEqual(settling(lodging_after(lodging, value)), value)

    def test_any_values(self):
        for value in zoo():
            for wishes in (SQUARE, ODD):
                self.assertIs(is_settling(wishes, value), False)
                self.assertIs(is_settling(wishes, (value, ONE)), False)
                self.assertIs(is_settling(wishes, ("settle", value)), False)
                self.assertIs(is_settling(wishes, ("ring", value)), False)
        for value in wrong_forms(("settle", ONE)):
            self.assertIs(is_settling(SQUARE, value), is_settling_by_words(SQUARE, value))
        for value in wrong_forms(("ring", (1, 2, 0, 3))):
            self.assertIs(is_settling(ODD, value), is_settling_by_words(ODD, value))

    def test_sixty_persons(self):
        for wishes in sixties():
            value = settling(Lodging(wishes, ()))
            self.assertIs(is_settling(wishes, value), True)
            self.assertTrue(is_settling_by_words(wishes, value))


if __name__ == "__main__":
    unittest.main()
