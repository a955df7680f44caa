"""Point 52: pairs, and in how many lasting pairings they are."""

import unittest

from lastpairs.counted import choices_in, count_pairings
from lastpairs.paircounts import mates_of, pair_counts, sure_pairs
from tests import naive
from tests.helpers import (
    crossed, ladder, many_wishes, raised, rich_wishes, ring_wishes, round_rings, side_by_side, sixties, squares, two_sided_ring, wishes_of,
)

SQUARE = squares(1)
ODD = round_rings(3)
THREE = wishes_of((3, 4, 5), (4, 5, 3), (5, 3, 4), (1, 2, 0), (2, 0, 1), (0, 1, 2))
CHAIN = wishes_of((1,), (0, 2), (1,))
SHAPES = [SQUARE, squares(2), THREE, CHAIN, ring_wishes(6), crossed(2), crossed(4), wishes_of(()), wishes_of((1,), (0,)), wishes_of(*[()] * 9), ODD,
          round_rings(3, 3), side_by_side(ODD, SQUARE), side_by_side(ring_wishes(6), SQUARE), wishes_of(*two_sided_ring(8))]
MORE = side_by_side(crossed(8), THREE, SQUARE)
MANY_ODD = side_by_side(crossed(16), ODD)


class PairsTest(unittest.TestCase):
    def check(self, wishes, lasting):
        counts = {}
        for pairing in lasting:
            for pair in pairing:
                counts[pair] = counts.get(pair, 0) + 1
        self.assertEqual(pair_counts(wishes), counts)
        for person in naive.persons(wishes):
            mates = {naive.mate(pairing, person) for pairing in lasting} - {None}
            self.assertEqual(mates_of(wishes, person), tuple(sorted(mates, key=lambda mate: naive.rank(wishes, person, mate))))
        self.assertEqual(sure_pairs(wishes), tuple(sorted(pair for pair, many in counts.items() if many == len(lasting))))

    def test_ordinary(self):
        self.assertEqual(pair_counts(SQUARE), {(0, 1): 1, (0, 3): 1, (1, 2): 1, (2, 3): 1})
        self.assertEqual(mates_of(SQUARE, 0), (1, 3))
        self.assertEqual(mates_of(wishes=SQUARE, person=3), (0, 2))
        self.assertEqual(sure_pairs(SQUARE), ())
        self.assertEqual(pair_counts(wishes=CHAIN), {(0, 1): 1})
        self.assertEqual(sure_pairs(wishes=CHAIN), ((0, 1),))
        self.assertEqual((mates_of(CHAIN, 0), mates_of(CHAIN, 2)), ((1,), ()))
        both = side_by_side(CHAIN, SQUARE)
        self.assertEqual(pair_counts(both)[(0, 1)], 2)
        self.assertEqual(sure_pairs(both), ((0, 1),))

    def test_without_lasting_pairings(self):
        for wishes in (ODD, side_by_side(ODD, SQUARE), round_rings(3, 2)):
            self.assertEqual(pair_counts(wishes), {})
            self.assertEqual(sure_pairs(wishes), ())
            self.assertEqual([mates_of(wishes, person) for person in naive.persons(wishes)], [()] * len(wishes.names))

    def test_nobody(self):
        for many in (1, 60):
            wishes = wishes_of(*[()] * many)
            self.assertEqual((pair_counts(wishes), sure_pairs(wishes), mates_of(wishes, many - 1)), ({}, (), ()))

    def test_a_new_dict_each_time(self):
        counts = pair_counts(SQUARE)
        counts.clear()
        self.assertEqual(len(pair_counts(SQUARE)), 4)

    def test_thirty_choices_and_more(self):
        exactly = side_by_side(crossed(8), THREE)
        self.assertEqual((len(choices_in(exactly)), len(choices_in(MORE))), (30, 31))
        counts = pair_counts(exactly)
        self.assertEqual(sum(many for pair, many in counts.items() if 16 in pair), count_pairings(exactly))
        self.assertEqual(raised(pair_counts, MORE), ("Refused", "size"))
        self.assertEqual(raised(sure_pairs, MORE), ("Refused", "size"))
        for person in (0, 17, 24):
            self.assertEqual(raised(mates_of, MORE, person), ("Refused", "size"))
        # With odd turns there are none, however many choices there are.
        self.assertEqual((pair_counts(MANY_ODD), sure_pairs(MANY_ODD), mates_of(MANY_ODD, 3)), ({}, (), ()))

    def test_against_all_lasting(self):
        several = 0
        for wishes in many_wishes(52, 120, 8, 1) + [some for some in rich_wishes(52, 60) if len(some.names) < 9] + SHAPES:
            lasting = naive.lasting(wishes)
            self.check(wishes, lasting)
            several += len(lasting) > 2
        self.assertGreater(several, 5)

    def test_against_all_lots(self):
        several = 0
        for wishes in many_wishes(520, 60, 12, 9) + rich_wishes(520, 120) + [ladder(8), squares(4)]:
            if any(naive.opposite(turn) == turn for turn in naive.all_turns(wishes)):
                self.assertEqual(pair_counts(wishes), {})
                continue
            lasting = [naive.pairing_of_parting(naive.parting_of_lot(wishes, lot)) for lot in naive.complete_lots(wishes)]
            self.check(wishes, lasting)
            several += len(lasting) > 2
        self.assertGreater(several, 30)

    def test_the_numbers_of_a_person(self):
        """All pairs of a person that is not single have together the number of all lasting pairings."""
        for wishes in sixties() + [squares(15), ladder(30), side_by_side(ladder(16), ladder(14))]:
            counts, many = pair_counts(wishes), count_pairings(wishes)
            for person in naive.persons(wishes):
                told = {pair: number for pair, number in counts.items() if person in pair}
                self.assertIn(sum(told.values()), (0, many))
                if person % 9 == 0:
                    self.assertEqual(set(mates_of(wishes, person)), {pair[0] + pair[1] - person for pair in told})
            self.assertEqual(sure_pairs(wishes), tuple(sorted(pair for pair, number in counts.items() if number == many)))


if __name__ == "__main__":
    unittest.main()
