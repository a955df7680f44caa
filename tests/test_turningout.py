"""Points 30 and 31: rings turned out to the end, and what is solved by it."""

import random
import unittest

from lastpairs.alltables import steady_tables
from lastpairs.left import firsts_left
from lastpairs.plainpartings import is_lasting_parting
from lastpairs.proposals import asked_out
from lastpairs.turningout import (
    holds_behind_rings, holds_by_parting, is_turning_row, last_holds, parting_by_holds, solved, turning_row,
)
from lastpairs.turnrings import good_rings, turned_out
from tests import naive
from tests.helpers import is_plain, many_wishes, raised, ring_wishes, round_rings, sixties, squares, wishes_of, wrong_forms, zoo

SQUARE = squares(1)
HOLDS = (3, 0, 1, 2)
ODD = wishes_of((1, 2), (2, 0), (0, 1))
ODD_RING = ((0, 1), (1, 2), (2, 0))
RING, OTHER = ((0, 1), (2, 3)), ((1, 2), (3, 0))


class RowTest(unittest.TestCase):
    def test_ordinary(self):
        self.assertEqual(turning_row(SQUARE, HOLDS), (RING,))
        self.assertEqual(last_holds(SQUARE, HOLDS), (3, 2, 1, 0))
        self.assertEqual(holds_behind_rings(SQUARE, HOLDS, (OTHER,)), (1, 0, 3, 2))
        self.assertEqual(turning_row(wishes=ring_wishes(6), holds=asked_out(ring_wishes(6)))[0], good_rings(ring_wishes(6), asked_out(ring_wishes(6)))[0])
        self.assertEqual(last_holds(wishes=SQUARE, holds=(1, 0, 3, 2)), (1, 0, 3, 2))
        self.assertEqual(holds_behind_rings(wishes=SQUARE, holds=HOLDS, row=()), HOLDS)

    def test_no_good_ring_at_the_beginning(self):
        for wishes, holds in ((SQUARE, (3, 2, 1, 0)), (ODD, (2, 0, 1)), (wishes_of(()), (None,)), (wishes_of(*[()] * 60), (None,) * 60)):
            self.assertEqual(turning_row(wishes, holds), ())
            self.assertEqual(last_holds(wishes, holds), holds)
            self.assertIs(is_turning_row(wishes, holds, ()), True)
        self.assertIs(is_turning_row(ODD, (2, 0, 1), (ODD_RING,)), False)
        self.assertEqual(raised(holds_behind_rings, ODD, (2, 0, 1), (ODD_RING,)), ("Refused", "ring"))

    def test_rows(self):
        self.assertIs(is_turning_row(SQUARE, HOLDS, (RING,)), True)
        self.assertIs(is_turning_row(wishes=SQUARE, holds=HOLDS, value=(OTHER,)), True)
        for value in ((), (RING, OTHER), (RING, RING), [RING], RING, ((RING,),), (RING[::-1],), (list(RING),), (([0, 1], [2, 3]),),
                      (((False, 1), (2, 3)),), (((0, True), (2, 3)),), (((0, 1),),), None, (None,)):
            self.assertIs(is_turning_row(SQUARE, HOLDS, value), False, value)
        eight = ring_wishes(8)
        row = turning_row(eight, asked_out(eight))
        self.assertGreater(len(row), 1)
        self.assertIs(is_turning_row(eight, asked_out(eight), row), True)
        self.assertIs(is_turning_row(eight, asked_out(eight), row[:-1]), False)
        self.assertIs(is_turning_row(eight, asked_out(eight), row + row[-1:]), False)
        self.assertIs(is_turning_row(eight, asked_out(eight), row[1:]), False)

    def test_any_values(self):
        for value in zoo():
            self.assertIs(is_turning_row(SQUARE, HOLDS, value), False)
            self.assertIs(is_turning_row(SQUARE, HOLDS, (value,)), False)
            self.assertIs(is_turning_row(ODD, (2, 0, 1), value), False)
            self.assertEqual(raised(holds_behind_rings, SQUARE, HOLDS, (value,)), ("Refused", "ring"))
            self.assertEqual(raised(holds_behind_rings, SQUARE, HOLDS, (RING, value)), ("Refused", "ring"))
        for value in wrong_forms((RING,)):
            fine = is_plain(value) and value in ((RING,), (OTHER,))
            self.assertIs(is_turning_row(SQUARE, HOLDS, value), fine)
        for value in wrong_forms(RING):
            fine = is_plain(value) and value in (RING, OTHER)
            self.assertEqual(raised(holds_behind_rings, SQUARE, HOLDS, (value,)), None if fine else ("Refused", "ring"))

    def test_against_the_words(self):
        chance = random.Random(30)
        for wishes in many_wishes(30, 120, 10, 3) + [squares(2), ring_wishes(6), ring_wishes(8), ring_wishes(9), round_rings(4, 6, 3)]:
            for holds in steady_tables(wishes)[-3:]:
                row, now = turning_row(wishes, holds), holds
                for ring in row:
                    self.assertEqual(ring, good_rings(wishes, now)[0])
                    now = turned_out(wishes, now, ring)
                self.assertEqual(good_rings(wishes, now), ())
                self.assertEqual(last_holds(wishes, holds), now)
                self.assertEqual(holds_behind_rings(wishes, holds, row), now)
                self.check_any_row(wishes, holds, chance)

    def check_any_row(self, wishes, holds, chance):
        """Whichever good rings are turned out, it ends soon, and a lasting parting of pairs and odd rings is left."""
        row, now = (), holds
        while good_rings(wishes, now):
            self.assertIs(is_turning_row(wishes, holds, row), False)
            row += (chance.choice(good_rings(wishes, now)),)
            now = turned_out(wishes, now, row[-1])
        self.assertIs(is_turning_row(wishes, holds, row), True)
        self.assertIs(is_turning_row(wishes, holds, row + row[-1:]), not row)
        self.assertLessEqual(len(row), len(naive.pairs(wishes)))
        parting = parting_by_holds(wishes, now)
        self.assertTrue(naive.is_parting(wishes, parting))
        self.assertTrue(naive.does_parting_last(wishes, parting))
        self.assertTrue(all(len(ring) % 2 or len(ring) == 2 for ring in naive.rings(parting)))
        self.assertEqual(holds_by_parting(parting), now)


class PartingsTest(unittest.TestCase):
    def test_ordinary(self):
        self.assertEqual(holds_by_parting((1, 2, 0, 3)), (2, 0, 1, None))
        self.assertEqual(holds_by_parting(parting=(0,)), (None,))
        self.assertEqual(parting_by_holds(ODD, (2, 0, 1)), (1, 2, 0))
        self.assertEqual(parting_by_holds(SQUARE, HOLDS), (1, 2, 3, 0))
        self.assertEqual(parting_by_holds(SQUARE, (3, 2, 1, 0)), (3, 2, 1, 0))
        self.assertEqual(parting_by_holds(wishes=wishes_of(()), holds=(None,)), (0,))

    def test_first_ones_are_the_next_ones(self):
        for wishes in many_wishes(300, 60, 6):
            for holds in steady_tables(wishes):
                parting = parting_by_holds(wishes, holds)
                for person, first in enumerate(firsts_left(wishes, holds)):
                    self.assertEqual(parting[person], person if first is None else first)
            for parting in naive.lasting_partings(wishes):
                self.assertEqual(parting_by_holds(wishes, holds_by_parting(parting)), parting)
            for parting in naive.partings(wishes):
                self.assertEqual(holds_by_parting(parting), tuple(naive.before(parting, person) for person in naive.persons(wishes)))


class SolvedTest(unittest.TestCase):
    def test_ordinary(self):
        self.assertEqual(solved(wishes_of((1, 2, 3), (2, 0, 3), (0, 1, 3), (0, 1, 2))), ("ring", (0, 1, 2), (1, 2, 0, 3)))
        self.assertEqual(solved(wishes=wishes_of((1,), (0,))), ("pairing", ((0, 1),)))
        self.assertIn(solved(SQUARE), (("pairing", ((0, 1), (2, 3))), ("pairing", ((0, 3), (1, 2)))))
        self.assertEqual(solved(wishes_of(())), ("pairing", ()))
        self.assertEqual(solved(wishes_of(*[()] * 60)), ("pairing", ()))
        self.assertEqual(solved(round_rings(1, 2, 5, 3)), ("ring", (3, 4, 5, 6, 7), (0, 2, 1, 4, 5, 6, 7, 3, 9, 10, 8)))

    def test_against_the_words(self):
        words = []
        for wishes in many_wishes(31, 200, 6) + [squares(1), ring_wishes(6), ring_wishes(5), round_rings(3, 3), round_rings(5), round_rings(6)]:
            result, pairings, partings = solved(wishes), naive.lasting(wishes), naive.lasting_partings(wishes)
            words.append(result[0])
            if pairings:
                self.assertEqual(result[0], "pairing")
                self.assertIn(result[1], pairings)
            else:
                self.assertEqual(result[0], "ring")
                self.assertIn(result[2], partings)
                self.assertEqual(result[1], naive.odd_rings(result[2])[0])
                self.assertTrue(all(len(ring) % 2 or len(ring) == 2 for ring in naive.rings(result[2])))
            self.assertEqual(any(naive.odd_rings(parting) for parting in partings), not pairings)
        self.assertGreater(words.count("ring"), 10)
        self.assertGreater(words.count("pairing"), 10)

    def test_sixty_persons(self):
        for wishes in sixties():
            result = solved(wishes)
            if result[0] == "pairing":
                self.assertEqual(naive.blocks(wishes, result[1]), ())
            else:
                self.assertTrue(is_lasting_parting(wishes, result[2]))
                self.assertEqual(result[1], naive.odd_rings(result[2])[0])


if __name__ == "__main__":
    unittest.main()
