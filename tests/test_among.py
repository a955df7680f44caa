"""Point 66: wishes and partings among those who are here."""

import unittest

from lastpairs.among import is_parting_among, odd_parts, wishes_among
from lastpairs.plainpartings import lasting_partings
from lastpairs.wishes import Wishes
from tests import naive
from tests.helpers import many_wishes, ring_wishes, squares, wishes_of, wrong_forms, zoo

FOUR = wishes_of((1, 2, 3), (2, 0, 3), (0, 1, 3), (0, 1, 2))


class AmongTest(unittest.TestCase):
    def test_ordinary(self):
        self.assertEqual(wishes_among(FOUR, (0, 1)), Wishes(FOUR.names, ((1,), (0,), (), ())))
        self.assertEqual(wishes_among(FOUR, (1, 2, 3)), Wishes(FOUR.names, ((), (2, 3), (1, 3), (1, 2))))
        self.assertIs(is_parting_among(FOUR, (0, 1), (1, 0, 2, 3)), True)
        self.assertIs(is_parting_among(FOUR, (0, 1), (0, 1, 2, 3)), False)
        self.assertIs(is_parting_among(FOUR, (0, 1), (1, 2, 0, 3)), False)
        self.assertIs(is_parting_among(wishes=FOUR, here=(0, 1, 2), value=(1, 2, 0, 3)), True)
        self.assertEqual(odd_parts((0, 1, 2), (1, 2, 0, 3)), ((0, 1, 2),))
        self.assertEqual(odd_parts(here=(0, 1, 2, 3), parting=(1, 2, 0, 3)), ((0, 1, 2), (3,)))
        self.assertEqual(odd_parts((0, 3), (0, 1, 2, 3)), ((0,), (3,)))
        self.assertEqual(odd_parts((0, 1, 4), (1, 0, 2, 3, 4)), ((4,),))

    def test_all_and_nobody(self):
        for wishes in (FOUR, squares(2), ring_wishes(60), wishes_of(())):
            everybody = tuple(naive.persons(wishes))
            self.assertEqual(wishes_among(wishes=wishes, here=everybody), wishes)
            self.assertEqual(wishes_among(wishes, ()), Wishes(wishes.names, ((),) * len(everybody)))
            self.assertIs(is_parting_among(wishes, (), everybody), True)
            self.assertEqual(odd_parts((), everybody), ())
            self.assertEqual(odd_parts(everybody, everybody), tuple((person,) for person in everybody))

    def test_against_the_words(self):
        for wishes in many_wishes(66, 25, 5):
            for here in naive.lots(naive.persons(wishes)):
                among = wishes_among(wishes, here)
                self.assertEqual(among.names, wishes.names)
                for person, some in enumerate(wishes.lists):
                    kept = tuple(other for other in some if other in here and person in here)
                    self.assertEqual(among.lists[person], kept)
                lasting = naive.lasting_partings(among)
                for parting in naive.partings(wishes):
                    self.assertIs(is_parting_among(wishes, here, parting), parting in lasting)
                for parting in lasting:
                    self.assertTrue(set(range(len(parting))) - set(here) <= set(naive.singles(parting)))
                    parts = tuple(ring for ring in naive.rings(parting) if len(ring) % 2 and set(ring) <= set(here))
                    self.assertEqual(odd_parts(here, parting), parts)

    def test_any_values(self):
        for value in zoo():
            self.assertIs(is_parting_among(FOUR, (0, 1, 2), value), False)
            self.assertIs(is_parting_among(wishes_of(()), (), value), False)
        found = lasting_partings(wishes_among(FOUR, (0, 1, 2)))
        for value in wrong_forms((1, 2, 0, 3)):
            fine = naive.is_parting(FOUR, value) and value in found
            self.assertIs(is_parting_among(FOUR, (0, 1, 2), value), fine)


if __name__ == "__main__":
    unittest.main()
