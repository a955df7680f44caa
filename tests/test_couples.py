"""Point 32: why an odd ring bars all lasting pairings."""

import unittest

from lastpairs.couples import neighbour_couples
from lastpairs.plainpartings import lasting_partings
from tests import naive
from tests.helpers import many_wishes, ring_wishes, round_rings, squares, wishes_of

SQUARE = squares(1)


def couples_by_words(wishes, parting, pairing):
    found = set()
    for person in naive.persons(wishes):
        if parting[person] != person:
            mate, before = naive.mate(pairing, person), parting.index(person)
            if naive.rather(wishes, person, mate, parting[person]):
                with_whom = parting[person]
            elif naive.rather(wishes, person, before, mate):
                with_whom = before
            else:
                with_whom = mate
            found.add((min(person, with_whom), max(person, with_whom)))
    return tuple(sorted(found))


class CouplesTest(unittest.TestCase):
    def test_ordinary(self):
        self.assertEqual(neighbour_couples(SQUARE, (1, 2, 3, 0), ((0, 1), (2, 3))), ((0, 1), (2, 3)))
        self.assertEqual(neighbour_couples(SQUARE, (1, 2, 3, 0), ((0, 3), (1, 2))), ((0, 3), (1, 2)))
        self.assertEqual(neighbour_couples(SQUARE, (1, 0, 3, 2), ((0, 3), (1, 2))), ((0, 1), (2, 3)))
        self.assertEqual(neighbour_couples(wishes=SQUARE, parting=(3, 2, 1, 0), pairing=((0, 1), (2, 3))), ((0, 3), (1, 2)))

    def test_single_persons(self):
        self.assertEqual(neighbour_couples(wishes_of(()), (0,), ()), ())
        self.assertEqual(neighbour_couples(wishes_of((), (2,), (1,)), (0, 2, 1), ((1, 2),)), ((1, 2),))
        self.assertEqual(neighbour_couples(wishes_of(*[()] * 60), tuple(range(60)), ()), ())

    def test_against_the_words(self):
        done = 0
        for wishes in many_wishes(32, 120, 6) + [squares(1), squares(2), ring_wishes(6), round_rings(6), round_rings(4, 1, 2)]:
            pairings = naive.lasting(wishes)
            for parting in lasting_partings(wishes) if pairings else ():
                for pairing in pairings:
                    couples = neighbour_couples(wishes, parting, pairing)
                    self.assertEqual(couples, couples_by_words(wishes, parting, pairing))
                    self.assertLessEqual(set(couples), set(naive.nearby(parting)))
                    on_rings = [person for person in naive.persons(wishes) if parting[person] != person]
                    self.assertEqual(sorted(person for pair in couples for person in pair), on_rings)
                    done += 1
        self.assertGreater(done, 100)

    def test_sixty_persons(self):
        wishes = squares(15)
        ring = tuple(at - 3 if at % 4 == 3 else at + 1 for at in range(60))
        pairs = tuple((at, at + 1) for at in range(0, 60, 2))
        self.assertEqual(neighbour_couples(wishes, ring, pairs), pairs)


if __name__ == "__main__":
    unittest.main()
