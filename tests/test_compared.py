"""Point 34: two partings."""

import unittest

from lastpairs.compared import edges_of, risen_pairs
from lastpairs.plainpartings import lasting_partings
from tests import naive
from tests.helpers import many_wishes, ring_wishes, round_rings, sixties, squares, wishes_of

KITE = wishes_of((1, 3), (2, 0), (3, 1), (0, 2, 4), (3,))


def next_one(parting, person):
    return None if parting[person] == person else parting[person]


def risen_by_words(wishes, one, other):
    found = []
    for i in naive.persons(wishes):
        for j in wishes.lists[i]:
            pair = (min(i, j), max(i, j))
            if pair in naive.nearby(other) and pair not in naive.nearby(one):
                before = naive.before(one, j)
                if naive.rather(wishes, i, j, next_one(one, i)) and naive.rather(wishes, j, before, i):
                    found.append((i, j))
    return tuple(sorted(found))


def upside_by_words(wishes, one, other):
    """Whether each two persons next to one another in the second parting alone are in just one risen pair."""
    alone = [pair for pair in naive.nearby(other) if pair not in naive.nearby(one)]
    risen = risen_pairs(wishes, one, other)
    return len(risen) == len(alone) and all((pair in risen) != (pair[::-1] in risen) for pair in alone)


class EdgesTest(unittest.TestCase):
    def test_ordinary(self):
        self.assertEqual(edges_of((1, 2, 0, 3)), ((0, 1), (0, 2), (1, 2)))
        self.assertEqual(edges_of((1, 0, 3, 2)), ((0, 1), (2, 3)))
        self.assertEqual(edges_of((3, 0, 1, 2, 4)), ((0, 1), (0, 3), (1, 2), (2, 3)))
        self.assertEqual(edges_of(parting=(0, 1, 2)), ())
        self.assertEqual(edges_of((0,)), ())

    def test_against_the_words(self):
        for wishes in many_wishes(34, 30, 5):
            for parting in naive.partings(wishes):
                self.assertEqual(edges_of(parting), naive.nearby(parting))


class RisenTest(unittest.TestCase):
    def test_ordinary(self):
        # 1 would rather have 2 than its next one, 0; and 2 would rather have the one before it, 3, than 1.
        self.assertEqual(risen_pairs(KITE, (1, 0, 3, 2, 4), (3, 2, 1, 0, 4)), ((1, 2), (3, 0)))
        self.assertEqual(risen_pairs(squares(1), (3, 2, 1, 0), (1, 0, 3, 2)), ((0, 1), (2, 3)))
        # On the ring of four, 1 has 2 behind it and 0 before it: nobody comes anew.
        self.assertEqual(risen_pairs(squares(1), (1, 2, 3, 0), (1, 0, 3, 2)), ())
        self.assertEqual(risen_pairs(squares(1), (1, 0, 3, 2), (1, 2, 3, 0)), ((1, 2), (3, 0)))
        self.assertEqual(risen_pairs(wishes=KITE, one=(1, 2, 3, 0, 4), other=(1, 2, 3, 0, 4)), ())

    def test_single_persons_have_nobody(self):
        # Who is single would rather have anybody on its list, and there is nobody whom it would rather have.
        self.assertEqual(risen_pairs(wishes_of((1,), (0,)), (0, 1), (1, 0)), ())
        self.assertEqual(risen_pairs(wishes_of((1,), (0, 2), (1,)), (0, 2, 1), (1, 0, 2)), ())
        self.assertEqual(risen_pairs(wishes_of((1,), (2, 0), (1,)), (0, 2, 1), (1, 0, 2)), ((0, 1),))

    def test_both_ways(self):
        # Two whose next ones are worse, and whose ones before are better, are in both pairs.
        wishes = wishes_of((2, 1, 3), (3, 0, 2), (1, 0), (0, 1))
        one, other = (3, 2, 0, 1), (1, 0, 2, 3)
        self.assertEqual(risen_by_words(wishes, one, other), ((0, 1), (1, 0)))
        self.assertEqual(risen_pairs(wishes, one, other), ((0, 1), (1, 0)))

    def test_against_the_words(self):
        for wishes in many_wishes(340, 25, 4) + [squares(1)]:
            partings = naive.partings(wishes)
            for one in partings:
                for other in partings:
                    self.assertEqual(risen_pairs(wishes, one, other), risen_by_words(wishes, one, other))

    def test_lasting_ones(self):
        alone = 0
        for wishes in many_wishes(341, 150, 7, 3) + [squares(1), squares(2), ring_wishes(6), ring_wishes(8), round_rings(4, 4), round_rings(6)]:
            partings = lasting_partings(wishes)
            for one in partings:
                for other in partings:
                    self.assertEqual(risen_pairs(wishes, one, other), risen_by_words(wishes, one, other))
                    self.assertTrue(upside_by_words(wishes, one, other))
                    alone += one != other
        self.assertGreater(alone, 50)

    def test_sixty_persons(self):
        one, other = tuple(at ^ 1 for at in range(60)), tuple(at ^ 3 for at in range(60))
        risen = risen_pairs(squares(15), one, other)
        self.assertEqual(risen, risen_by_words(squares(15), one, other))
        self.assertTrue(upside_by_words(squares(15), one, other))
        for wishes in sixties():
            nobody = tuple(range(60))
            self.assertEqual(risen_pairs(wishes, nobody, nobody), ())


if __name__ == "__main__":
    unittest.main()
