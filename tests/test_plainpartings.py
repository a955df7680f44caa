"""Points 18, 19 and 20: partings, and which of them last."""

import random
import unittest

from lastpairs.plain import lasting_pairings
from lastpairs.plainpartings import (
    barring_pairs, before_in, check_parting, is_lasting_parting, lasting_partings, paired_parting, rings_of, split_ring,
    turned_persons,
)
from tests import naive
from tests.helpers import many_wishes, raised, random_wishes, ring_wishes, squares, wishes_of, wrong_forms, zoo

KITE = wishes_of((1, 3), (2, 0), (3, 1), (0, 2, 4), (3,))
ODD = wishes_of((1, 2), (2, 0), (0, 1, 3), (2,))


class CheckTest(unittest.TestCase):
    def told(self, wishes, value):
        error = raised(check_parting, wishes, value)
        if error is not None:
            self.assertEqual(error[0], "InvalidParting")
            return error[1]
        return None

    def test_ordinary(self):
        for parting in ((0, 1, 2, 3, 4), (1, 2, 3, 0, 4), (1, 0, 3, 2, 4), (3, 0, 1, 2, 4), (0, 2, 1, 4, 3)):
            self.assertIsNone(self.told(KITE, parting))
        self.assertIsNone(check_parting(wishes=KITE, value=(0, 1, 2, 3, 4)))

    def test_form(self):
        for value in (None, (), (0, 1, 2, 3), (0, 1, 2, 3, 4, 5), [0, 1, 2, 3, 4], "abcde", 5, {}):
            self.assertEqual(self.told(KITE, value), -1)

    def test_items(self):
        for at, instead in ((0, 2), (0, 4), (1, 3), (4, 2), (2, -3), (2, 5), (2, None), (2, 2.0), (0, False), (1, True), (3, "3"),
                            (3, (3,)), (3, [3])):
            value = list(range(5))
            value[at] = instead
            self.assertEqual(self.told(KITE, tuple(value)), at)
        self.assertEqual(self.told(KITE, (1, 1, 2, 3, 4)), 1)
        self.assertEqual(self.told(KITE, (0, 0, 1, 3, 4)), 1)
        self.assertEqual(self.told(KITE, (1, 2, 3, 4, 3)), 4)
        self.assertEqual(self.told(KITE, (3, 0, 3, 1, None)), 2)

    def test_any_values(self):
        one = wishes_of(())
        for value in zoo():
            self.assertEqual(self.told(KITE, value), -1)
            self.assertEqual(self.told(one, (value,)), 0)
        for value in wrong_forms((1, 2, 3, 0, 4)):
            self.assertEqual(self.told(KITE, value), self.expected(value))

    def expected(self, value):
        if type(value) is not tuple or len(value) != 5:
            return -1
        for at, item in enumerate(value):
            if not naive.is_number(item) or not (item == at or item in KITE.lists[at]) or item in value[:at]:
                return at
        return None

    def test_rows_of_numbers(self):
        chance = random.Random(18)
        for wishes in many_wishes(18, 40, 5):
            for _ in range(30):
                value = tuple(chance.choice((at,) + some) for at, some in enumerate(wishes.lists))
                self.assertEqual(self.told(wishes, value) is None, naive.is_parting(wishes, value))


class RingsTest(unittest.TestCase):
    def test_ordinary(self):
        self.assertEqual(before_in((1, 2, 0, 3)), (2, 0, 1, 3))
        self.assertEqual(before_in(parting=(0,)), (0,))
        self.assertEqual(rings_of((1, 2, 0, 3)), ((0, 1, 2), (3,)))
        self.assertEqual(rings_of((3, 2, 1, 0)), ((0, 3), (1, 2)))
        self.assertEqual(rings_of((4, 3, 0, 1, 2)), ((0, 4, 2), (1, 3)))
        self.assertEqual(rings_of(parting=(0, 1)), ((0,), (1,)))

    def test_against_the_words(self):
        for wishes in many_wishes(19, 20, 6):
            for parting in naive.partings(wishes):
                self.assertEqual(before_in(parting), tuple(parting.index(person) for person in naive.persons(wishes)))
                rings = rings_of(parting)
                self.assertEqual([ring[0] for ring in rings], sorted(min(ring) for ring in rings))
                self.assertEqual(sorted(person for ring in rings for person in ring), list(naive.persons(wishes)))
                for ring in rings:
                    self.assertEqual([parting[person] for person in ring], list(ring[1:] + ring[:1]))


class LastingTest(unittest.TestCase):
    def test_ordinary(self):
        self.assertEqual(turned_persons(ODD, (2, 0, 1, 3)), (0, 1, 2))
        self.assertEqual(turned_persons(ODD, (1, 2, 0, 3)), ())
        self.assertEqual(turned_persons(ODD, (1, 0, 3, 2)), ())
        self.assertEqual(barring_pairs(ODD, (0, 1, 2, 3)), ((0, 1), (0, 2), (1, 2), (2, 3)))
        self.assertEqual(barring_pairs(ODD, (1, 0, 3, 2)), ((1, 2),))
        self.assertIs(is_lasting_parting(ODD, (1, 2, 0, 3)), True)
        self.assertIs(is_lasting_parting(ODD, (2, 0, 1, 3)), False)
        self.assertIs(is_lasting_parting(ODD, (1, 0, 3, 2)), False)
        self.assertEqual(lasting_partings(wishes_of(())), ((0,),))
        self.assertEqual(lasting_partings(wishes_of((1,), (0,))), ((1, 0),))

    def test_sizes(self):
        self.assertEqual(raised(lasting_partings, ring_wishes(9)), ("Refused", "size"))
        self.assertEqual(raised(lasting_partings, wishes_of(*[()] * 9)), ("Refused", "size"))
        self.assertEqual(lasting_partings(wishes_of(*[()] * 8)), (tuple(range(8)),))
        self.assertEqual(len(lasting_partings(squares(2))), 9)
        chance = random.Random(8)
        for _ in range(3):
            wishes = random_wishes(chance, 8)
            found = lasting_partings(wishes)
            self.assertTrue(found)
            for parting in found:
                self.assertTrue(naive.does_parting_last(wishes, parting))

    def test_against_the_words(self):
        for wishes in many_wishes(20, 120, 6):
            for parting in naive.partings(wishes):
                before = [naive.before(parting, person) for person in naive.persons(wishes)]
                turned = tuple(p for p in naive.persons(wishes)
                               if before[p] is not None and naive.rather(wishes, p, before[p], parting[p]))
                pairs = tuple((i, j) for i, j in naive.pairs(wishes)
                              if naive.rather(wishes, i, j, before[i]) and naive.rather(wishes, j, i, before[j]))
                self.assertEqual(turned_persons(wishes, parting), turned)
                self.assertEqual(barring_pairs(wishes, parting), pairs)
                self.assertEqual(is_lasting_parting(wishes, parting), naive.does_parting_last(wishes, parting))
            found = lasting_partings(wishes)
            self.assertEqual(found, naive.lasting_partings(wishes))
            self.assertEqual(list(found), sorted(found))
            self.assertTrue(found)
            for parting in found:
                for ring in rings_of(parting):
                    for person in ring if len(ring) > 2 else ():
                        self.assertTrue(naive.rather(wishes, person, parting[person], naive.before(parting, person)))


class PairedTest(unittest.TestCase):
    def test_ordinary(self):
        self.assertEqual(paired_parting(KITE, ((0, 3), (1, 2))), (3, 2, 1, 0, 4))
        self.assertEqual(paired_parting(wishes=KITE, pairing=()), (0, 1, 2, 3, 4))
        self.assertEqual(split_ring((1, 2, 3, 0, 4), 0), (1, 0, 3, 2, 4))
        self.assertEqual(split_ring((1, 2, 3, 0, 4), 1), (3, 2, 1, 0, 4))
        self.assertEqual(split_ring((1, 2, 3, 0, 4), 2), (1, 0, 3, 2, 4))
        self.assertEqual(split_ring(parting=(1, 0, 2), person=1), (1, 0, 2))
        self.assertEqual(split_ring((1, 2, 3, 4, 5, 0, 7, 6), 3), (5, 2, 1, 4, 3, 0, 7, 6))

    def test_odd_rings(self):
        self.assertEqual(raised(split_ring, (1, 2, 0, 3), 1), ("Refused", "ring"))
        self.assertEqual(raised(split_ring, (1, 2, 0, 3), 3), ("Refused", "ring"))
        self.assertEqual(raised(split_ring, (1, 2, 3, 4, 0), 4), ("Refused", "ring"))

    def test_what_lasts(self):
        for wishes in many_wishes(201, 80, 6):
            for pairing in naive.pairings(wishes):
                parting = paired_parting(wishes, pairing)
                self.assertTrue(naive.is_parting(wishes, parting))
                self.assertEqual(is_lasting_parting(wishes, parting), not naive.blocks(wishes, pairing))
            odd = set()
            for parting in lasting_partings(wishes):
                odd.add(any(len(ring) % 2 and len(ring) > 1 for ring in rings_of(parting)))
                for ring in rings_of(parting):
                    for person in ring if len(ring) % 2 == 0 else ():
                        self.assertTrue(naive.does_parting_last(wishes, split_ring(parting, person)))
            self.assertEqual(len(odd), 1)
            self.assertEqual(odd == {False}, bool(lasting_pairings(wishes)))


if __name__ == "__main__":
    unittest.main()
