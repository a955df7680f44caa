"""Point 70, what it says of all persons who come one after another."""

import random
import unittest
from itertools import permutations

from lastpairs.arrivals import coming_row
from lastpairs.comings import askings_by, parting_by_comings
from lastpairs.judge import is_parting
from lastpairs.mended import parting_with
from lastpairs.partings import odd_rings, single_persons
from tests import naive
from tests.helpers import crossed, many_wishes, rich_wishes, ring_wishes, round_rings, side_by_side, sixties, squares, wishes_of
from tests.test_arrivals import FIVE, FOUR, askings_by_words
from tests.test_mended import mended_by_words

SQUARE = squares(1)


def all_come(wishes, order):
    here, parting, lengths = (), tuple(naive.persons(wishes)), []
    for person in order:
        lengths.append(len(askings_by_words(wishes, here, parting, person)[0]))
        parting = mended_by_words(wishes, here, parting, person)[0]
        here = tuple(sorted(here + (person,)))
    return parting, tuple(lengths)


class ComingsTest(unittest.TestCase):
    def test_ordinary(self):
        self.assertEqual(parting_by_comings(FOUR, (0, 1, 2, 3)), (1, 2, 0, 3))
        self.assertEqual(askings_by(FOUR, (0, 1, 2, 3)), (0, 1, 3, 3))
        self.assertEqual(parting_by_comings(wishes=SQUARE, order=(0, 1, 2, 3)), (3, 2, 1, 0))
        self.assertEqual(askings_by(wishes=SQUARE, order=(3, 2, 1, 0)), (0, 1, 1, 1))

    def test_one_alone_and_nobody(self):
        self.assertEqual(parting_by_comings(wishes_of(()), (0,)), (0,))
        self.assertEqual(askings_by(wishes_of(()), (0,)), (0,))
        nobody = wishes_of(*[()] * 60)
        self.assertEqual(parting_by_comings(nobody, tuple(range(60))[::-1]), tuple(range(60)))
        self.assertEqual(askings_by(nobody, tuple(range(60))), (0,) * 60)

    def test_step_by_step(self):
        for wishes in many_wishes(70, 60, 8) + [FOUR, FIVE]:
            here, parting, lengths = (), tuple(naive.persons(wishes)), ()
            for person in naive.persons(wishes):
                lengths += (len(coming_row(wishes, here, parting, person)),)
                parting = parting_with(wishes, here, parting, person)
                here += (person,)
            order = tuple(naive.persons(wishes))
            self.assertEqual((parting_by_comings(wishes, order), askings_by(wishes, order)), (parting, lengths))

    def test_any_sequence(self):
        """Whatever the sequence, the odd rings and the single persons are the same."""
        unlike = 0
        for wishes in many_wishes(700, 25, 5, 2) + [FOUR, FIVE, SQUARE, round_rings(3, 1)]:
            rings, singles = odd_rings(wishes), single_persons(wishes)
            told = set()
            for order in permutations(naive.persons(wishes)):
                parting = parting_by_comings(wishes, order)
                self.assertEqual((naive.odd_rings(parting), naive.singles(parting)), (rings, singles))
                self.assertTrue(naive.does_parting_last(wishes, parting))
                self.assertEqual((parting, askings_by(wishes, order)), all_come(wishes, order))
                told.add(parting)
            unlike += len(told) > 1
        self.assertGreater(unlike, 0)

    def test_random_sequences(self):
        chance = random.Random(701)
        for wishes in many_wishes(701, 80, 12, 6) + rich_wishes(701, 80) + [ring_wishes(9), round_rings(3, 5), squares(2)]:
            order = tuple(chance.sample(list(naive.persons(wishes)), len(wishes.names)))
            parting, lengths = all_come(wishes, order)
            self.assertEqual(parting_by_comings(wishes, order), parting)
            self.assertEqual(askings_by(wishes, order), lengths)
            self.assertIs(is_parting(wishes, parting), True)
            self.assertEqual(naive.odd_rings(parting), odd_rings(wishes))

    def test_sixty_persons(self):
        chance = random.Random(702)
        for wishes in sixties() + [side_by_side(crossed(16), ring_wishes(28))]:
            order = tuple(chance.sample(range(60), 60))
            parting = parting_by_comings(wishes, order)
            self.assertIs(is_parting(wishes, parting), True)
            self.assertEqual((naive.odd_rings(parting), naive.singles(parting)), (odd_rings(wishes), single_persons(wishes)))
            # There are at most as many askings as pairs, each time.
            self.assertTrue(all(many <= len(naive.pairs(wishes)) for many in askings_by(wishes, order)))


if __name__ == "__main__":
    unittest.main()
