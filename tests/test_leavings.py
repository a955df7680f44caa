"""Point 69: the parting that comes about when somebody goes."""

import random
import unittest

from lastpairs.among import is_parting_among, wishes_among
from lastpairs.leavings import parting_without
from lastpairs.mended import parting_with
from lastpairs.partings import odd_rings, parting_of
from lastpairs.plainpartings import lasting_partings
from tests import naive
from tests.helpers import crossed, many_wishes, rich_wishes, ring_wishes, round_rings, side_by_side, sixties, squares, wishes_of
from tests.test_arrivals import FIVE, FOUR
from tests.test_mended import change, mended_by_words, odd_parts, split

SQUARE = squares(1)


def gone_by_words(wishes, here, parting, person):
    left = list(split(parting))
    ring, one = [], left[person]
    while one != person:
        ring.append(one)
        one = left[one]
    if len(ring) == 1:
        mate = ring[0]
        left[person], left[mate] = person, mate
        rest = tuple(other for other in here if other not in (person, mate))
        return mended_by_words(wishes, rest, tuple(left), mate)[0]
    left[person] = person
    for one, other in zip(ring[::2], ring[1::2]):
        left[one], left[other] = other, one
    return tuple(left)


class LeavingsTest(unittest.TestCase):
    def test_out_of_odd_parts(self):
        # One alone, and one of three, five and seven.
        self.assertEqual(parting_without(wishes_of(()), (0,), (0,), 0), (0,))
        self.assertEqual(parting_without(FOUR, (0, 1, 2, 3), (1, 2, 0, 3), 3), (1, 2, 0, 3))
        self.assertEqual(parting_without(wishes=FOUR, here=(0, 1, 2, 3), parting=(1, 2, 0, 3), person=0), (0, 2, 1, 3))
        self.assertEqual(parting_without(FOUR, (0, 1, 2, 3), (1, 2, 0, 3), 1), (2, 1, 0, 3))
        self.assertEqual(parting_without(FOUR, (0, 1, 2, 3), (1, 2, 0, 3), 2), (1, 0, 2, 3))
        five = round_rings(5)
        self.assertEqual(parting_without(five, (0, 1, 2, 3, 4), (1, 2, 3, 4, 0), 0), (0, 2, 1, 4, 3))
        self.assertEqual(parting_without(five, (0, 1, 2, 3, 4), (1, 2, 3, 4, 0), 3), (4, 2, 1, 3, 0)[:1] + (2, 1, 3, 0))
        seven = round_rings(7)
        self.assertEqual(parting_without(seven, tuple(range(7)), (1, 2, 3, 4, 5, 6, 0), 2), (1, 0, 2, 4, 3, 6, 5))

    def test_out_of_pairs(self):
        # The mate finds nobody, then somebody who is single, then two are rings.
        self.assertEqual(parting_without(wishes_of((1,), (0,)), (0, 1), (1, 0), 0), (0, 1))
        chain = wishes_of((1,), (0, 2), (1,))
        self.assertEqual(parting_without(chain, (0, 1, 2), (1, 0, 2), 0), (0, 2, 1))
        self.assertEqual(parting_without(chain, (0, 1, 2), (1, 0, 2), 1), (0, 1, 2))
        self.assertEqual(parting_without(chain, (0, 1, 2), (1, 0, 2), 2), (1, 0, 2))
        # Of a square: 2 has what it would rather have, 3 has not.
        self.assertEqual(parting_without(SQUARE, (0, 1, 2, 3), (1, 0, 3, 2), 0), (0, 1, 3, 2))
        self.assertEqual(parting_without(SQUARE, (0, 1, 2, 3), (1, 0, 3, 2), 1), (3, 1, 2, 0))

    def test_out_of_longer_even_rings(self):
        """The ring is split first, from its least person on."""
        self.assertEqual(parting_without(SQUARE, (0, 1, 2, 3), (1, 2, 3, 0), 0), parting_without(SQUARE, (0, 1, 2, 3), (1, 0, 3, 2), 0))
        self.assertEqual(parting_without(SQUARE, (0, 1, 2, 3), (1, 2, 3, 0), 3), parting_without(SQUARE, (0, 1, 2, 3), (1, 0, 3, 2), 3))
        six = round_rings(6)
        for person in range(6):
            parting = (1, 2, 3, 4, 5, 0)
            self.assertEqual(parting_without(six, tuple(range(6)), parting, person), parting_without(six, tuple(range(6)), (1, 0, 3, 2, 5, 4), person))
            self.assertIs(is_parting_among(six, tuple(range(6)), parting), True)

    def test_against_the_words(self):
        chance = random.Random(69)
        kinds = {}
        for wishes in many_wishes(69, 500, 8) + rich_wishes(69, 80) + [ring_wishes(7), round_rings(3, 3), round_rings(5, 4), squares(2), FIVE] * 3:
            here = tuple(one for one in naive.persons(wishes) if chance.random() < 0.9) or (0,)
            among = wishes_among(wishes, here)
            partings = lasting_partings(among) if len(here) < 7 and len(wishes.names) < 9 else [parting_of(among)]
            for parting in partings:
                person = chance.choice(here)
                after = parting_without(wishes, here, parting, person)
                self.assertEqual(after, gone_by_words(wishes, here, parting, person))
                length = [len(ring) for ring in naive.rings(parting) if person in ring][0]
                kinds[length] = kinds.get(length, 0) + 1
                self.check_in_italics(wishes, here, parting, person, after)
        for length in (1, 2, 3, 4, 5):
            self.assertGreater(kinds[length], 10, length)

    def check_in_italics(self, wishes, here, parting, person, after):
        left = tuple(one for one in here if one != person)
        self.assertTrue(naive.is_parting(wishes_among(wishes, left), after))
        self.assertTrue(naive.does_parting_last(wishes_among(wishes, left), after))
        # One odd part more, or one less; and if the person comes again, they are as they were.
        change(odd_parts(here, parting), odd_parts(left, after))
        back = parting_with(wishes, left, after, person)
        self.assertEqual(odd_parts(here, back), odd_parts(here, parting))

    def test_sixty_persons(self):
        for wishes in sixties() + [side_by_side(crossed(16), ring_wishes(28))]:
            parting = parting_of(wishes)
            for person in (0, 28, 59):
                after = parting_without(wishes, tuple(range(60)), parting, person)
                self.assertEqual(after, gone_by_words(wishes, tuple(range(60)), parting, person))
                left = tuple(one for one in range(60) if one != person)
                self.assertIs(is_parting_among(wishes, left, after), True)
                self.assertEqual(naive.odd_rings(after), odd_rings(wishes_among(wishes, left)))


if __name__ == "__main__":
    unittest.main()
