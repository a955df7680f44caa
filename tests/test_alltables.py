"""Point 29: all steady holds."""

import random
import unittest

from lastpairs.alltables import rings_to, steady_tables
from lastpairs.left import are_within, firsts_left, held_ranks
from lastpairs.proposals import asked_out
from lastpairs.turnrings import good_rings, turned_out
from tests import naive
from tests.helpers import many_wishes, raised, random_wishes, ring_wishes, squares, two_sided_ring, wishes_of

# Wishes with just 101 steady holds.
MORE = wishes_of(
    (8, 11, 4, 9, 6, 13, 10, 1, 3, 7, 2, 12, 5), (6, 13, 9, 3, 0, 10, 12, 4, 2, 11, 5, 8, 7),
    (4, 3, 12, 6, 11, 0, 8, 10, 1, 5, 7, 9, 13), (5, 6, 12, 7, 2, 4, 10, 0, 8, 9, 11, 1, 13),
    (0, 13, 10, 3, 7, 9, 1, 2, 11, 5, 6, 12, 8), (4, 9, 0, 8, 1, 12, 7, 10, 3, 2, 11, 6, 13),
    (5, 9, 3, 0, 7, 12, 11, 10, 13, 2, 4, 8, 1), (2, 13, 5, 8, 0, 12, 1, 3, 9, 10, 11, 4, 6),
    (9, 13, 11, 3, 2, 12, 10, 7, 0, 4, 1, 6, 5), (10, 2, 5, 12, 8, 4, 13, 7, 1, 11, 3, 0, 6),
    (12, 13, 9, 7, 2, 8, 11, 5, 1, 4, 3, 6, 0), (1, 7, 5, 0, 10, 9, 4, 2, 12, 3, 6, 13, 8),
    (4, 11, 9, 8, 6, 5, 7, 13, 3, 10, 2, 1, 0), (0, 2, 7, 8, 5, 9, 11, 1, 4, 12, 3, 10, 6),
)


class SteadyTablesTest(unittest.TestCase):
    def test_ordinary(self):
        self.assertEqual(steady_tables(squares(1)), ((1, 0, 3, 2), (3, 2, 1, 0), (3, 0, 1, 2)))
        self.assertEqual(steady_tables(wishes=wishes_of(())), ((None,),))
        self.assertEqual(steady_tables(wishes_of((1, 2), (2, 0), (0, 1))), ((2, 0, 1),))
        self.assertEqual(steady_tables(wishes_of(*[()] * 60)), ((None,) * 60,))

    def test_against_the_words(self):
        for wishes in many_wishes(29, 80, 5) + [squares(1), ring_wishes(6)]:
            tables = steady_tables(wishes)
            self.assertEqual(list(tables), naive.steady_tables(wishes))
            ranks = [held_ranks(wishes, holds) for holds in tables]
            self.assertEqual(ranks, sorted(ranks))

    def test_a_hundred_and_more(self):
        hundred = wishes_of(*two_sided_ring(8), *two_sided_ring(8, 8))
        self.assertEqual(len(steady_tables(hundred)), 100)
        self.assertEqual(raised(steady_tables, MORE), ("Refused", "size"))
        self.assertEqual(len(steady_tables(squares(4))), 81)
        self.assertEqual(raised(steady_tables, squares(5)), ("Refused", "size"))
        self.assertEqual(raised(steady_tables, squares(15)), ("Refused", "size"))

    def test_rings_lead_on(self):
        """Steady holds within others are within those behind a good ring, unless it is as told."""
        for wishes in many_wishes(290, 40, 5, 3) + [squares(1), ring_wishes(6)]:
            tables = naive.steady_tables(wishes)
            for holds in tables:
                for ring in good_rings(wishes, holds):
                    after = turned_out(wishes, holds, ring)
                    for aim in tables:
                        if are_within(wishes, aim, holds):
                            firsts = firsts_left(wishes, aim)
                            have = {firsts[giver] == taker for giver, taker in ring}
                            self.assertEqual(len(have), 1)
                            self.assertEqual(are_within(wishes, aim, after), have == {False})


class RingsToTest(unittest.TestCase):
    def check(self, wishes, holds, aim):
        row = rings_to(wishes, holds, aim)
        for ring in row:
            self.assertIn(ring, good_rings(wishes, holds))
            holds = turned_out(wishes, holds, ring)
        self.assertEqual(holds, aim)
        return row

    def test_ordinary(self):
        wishes = squares(1)
        self.assertEqual(rings_to(wishes, (3, 0, 1, 2), (3, 2, 1, 0)), (((0, 1), (2, 3)),))
        self.assertEqual(rings_to(wishes=wishes, holds=(3, 0, 1, 2), aim=(3, 0, 1, 2)), ())

    def test_not_within(self):
        wishes = squares(1)
        self.assertEqual(raised(rings_to, wishes, (3, 2, 1, 0), (3, 0, 1, 2)), ("Refused", "aim"))
        self.assertEqual(raised(rings_to, wishes, (3, 2, 1, 0), (1, 0, 3, 2)), ("Refused", "aim"))

    def test_all(self):
        for wishes in many_wishes(291, 60, 8, 2) + [squares(2), ring_wishes(8), ring_wishes(12)]:
            tables = steady_tables(wishes)
            for holds in tables:
                for aim in tables:
                    if are_within(wishes, aim, holds):
                        self.check(wishes, holds, aim)
                    else:
                        self.assertEqual(raised(rings_to, wishes, holds, aim), ("Refused", "aim"))

    def test_sixty_persons(self):
        chance = random.Random(29)
        for wishes in (squares(15), ring_wishes(60), wishes_of(*two_sided_ring(60)), random_wishes(chance, 60)):
            first = holds = asked_out(wishes)
            while good_rings(wishes, holds):
                holds = turned_out(wishes, holds, chance.choice(good_rings(wishes, holds)))
            self.check(wishes, first, holds)


if __name__ == "__main__":
    unittest.main()
