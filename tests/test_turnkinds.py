"""Point 42, complete lots of turns, and point 43: odd turns, sure ones, and free ones."""

import unittest

from lastpairs.partings import odd_rings
from lastpairs.turnkinds import free_turns, is_complete, odd_turns, sure_turns
from lastpairs.turns import all_turns, whole_row
from tests import naive
from tests.helpers import (
    crossed, many_wishes, rich_wishes, ring_wishes, round_rings, side_by_side, sixties, squares, two_sided_ring, wishes_of,
)

SQUARE = squares(1)
RING, OTHER = ((0, 1), (2, 3)), ((1, 2), (3, 0))
ODD = wishes_of((1, 2), (2, 0), (0, 1))
ODD_RING = ((0, 1), (1, 2), (2, 0))
SIX = ring_wishes(6)
NOBODY = [wishes_of(()), wishes_of((1,), (0,)), wishes_of(*[()] * 60), wishes_of((1,), (0, 2), (1,))]
SHAPES = [squares(1), squares(2), round_rings(3), round_rings(3, 3), round_rings(3, 4), SIX, ring_wishes(7), ring_wishes(8), crossed(2),
          crossed(4), wishes_of(*two_sided_ring(8)), side_by_side(ODD, SQUARE), side_by_side(SIX, ODD)]


class CompleteTest(unittest.TestCase):
    def test_ordinary(self):
        self.assertIs(is_complete(SQUARE, (RING,)), True)
        self.assertIs(is_complete(wishes=SQUARE, turns=(OTHER,)), True)
        self.assertIs(is_complete(SQUARE, ()), False)
        self.assertIs(is_complete(SQUARE, (RING, OTHER)), False)
        self.assertIs(is_complete(ODD, ()), True)
        self.assertIs(is_complete(ODD, (ODD_RING,)), False)

    def test_without_turns(self):
        for wishes in NOBODY:
            self.assertIs(is_complete(wishes, ()), True)

    def test_complete_and_not_closed(self):
        row = whole_row(SIX)
        # Of the four turns of a chain the first two are opposites of the last two.
        self.assertIs(is_complete(SIX, tuple(sorted(row[:2]))), True)
        self.assertIs(is_complete(SIX, tuple(sorted(row[2:]))), True)
        self.assertIs(is_complete(SIX, tuple(sorted(row[1:3]))), False)
        self.assertIs(is_complete(SIX, tuple(sorted((row[0], row[2])))), True)

    def test_all_lots(self):
        whole = 0
        for wishes in many_wishes(420, 60, 8, 3) + rich_wishes(421, 60) + SHAPES:
            turns = naive.all_turns(wishes)
            for lot in naive.lots(turns) if len(turns) < 9 else naive.complete_lots(wishes)[:50]:
                fine = naive.is_complete(turns, lot)
                self.assertIs(is_complete(wishes, lot), fine)
                whole += fine
        self.assertGreater(whole, 300)


class KindsTest(unittest.TestCase):
    def test_ordinary(self):
        self.assertEqual(free_turns(SQUARE), (RING, OTHER))
        self.assertEqual(sure_turns(SQUARE), ())
        self.assertEqual(odd_turns(SQUARE), ())
        self.assertEqual(odd_turns(wishes=ODD), (ODD_RING,))
        self.assertEqual(sure_turns(wishes=ODD), ())
        self.assertEqual(free_turns(wishes=ODD), ())
        self.assertEqual(sure_turns(SIX), tuple(sorted(whole_row(SIX)[:2])))
        self.assertEqual(free_turns(SIX), ())

    def test_all_kinds_at_once(self):
        wishes = side_by_side(SQUARE, ODD, SIX)
        self.assertEqual(free_turns(wishes), (RING, OTHER))
        self.assertEqual(odd_turns(wishes), (((4, 5), (5, 6), (6, 4)),))
        self.assertEqual(sure_turns(wishes), tuple(
            tuple((giver + 7, taker + 7) for giver, taker in turn) for turn in sorted(whole_row(SIX)[:2])
        ))
        self.assertEqual(len(all_turns(wishes)), 7)

    def test_without_turns(self):
        for wishes in NOBODY:
            for kind in (odd_turns, sure_turns, free_turns):
                self.assertEqual(kind(wishes), ())

    def test_all_ways_to_an_end(self):
        sure = free = odd = 0
        for wishes in many_wishes(43, 150, 9, 3) + rich_wishes(43, 120) + SHAPES:
            turns, ends = naive.all_turns(wishes), naive.ends(wishes)
            in_all = tuple(turn for turn in turns if all(turn in lot for lot in ends))
            in_some = tuple(turn for turn in turns if turn not in in_all and any(turn in lot for lot in ends))
            self.assertEqual(sure_turns(wishes), in_all)
            self.assertEqual(free_turns(wishes), in_some)
            self.assertEqual(odd_turns(wishes), tuple(turn for turn in turns if naive.opposite(turn) == turn))
            self.check_in_italics(wishes, ends, in_all, in_some)
            sure, free, odd = sure + bool(in_all), free + bool(in_some), odd + bool(odd_turns(wishes))
        for many in (sure, free, odd):
            self.assertGreater(many, 30)

    def check_in_italics(self, wishes, ends, in_all, in_some):
        self.assertEqual(len({len(lot) for lot in ends}), 1)
        for lot in ends:
            self.assertFalse(any(naive.opposite(turn) in lot for turn in in_all))
            self.assertTrue(all((turn in lot) != (naive.opposite(turn) in lot) for turn in in_some))
        self.assertEqual({naive.opposite(turn) for turn in in_some}, set(in_some))

    def test_odd_turns_and_odd_rings(self):
        several = 0
        for wishes in many_wishes(430, 150, 9, 3) + rich_wishes(430, 60) + SHAPES + [round_rings(3, 5, 3)] + sixties():
            rings = odd_rings(wishes)
            self.assertEqual(len(odd_turns(wishes)), len(rings))
            self.assertEqual(
                sorted(giver for turn in odd_turns(wishes) for giver, _ in turn), sorted(person for ring in rings for person in ring)
            )
            several += len(rings) > 1
        self.assertGreater(several, 3)

    def test_sixty_persons(self):
        for wishes in sixties() + [side_by_side(crossed(16), crossed(8), crossed(4), crossed(2))]:
            turns = set(all_turns(wishes))
            kinds = [set(odd_turns(wishes)), set(sure_turns(wishes)), set(free_turns(wishes))]
            barred = {naive.opposite(turn) for turn in kinds[1]}
            self.assertEqual(set().union(*kinds, barred), turns)
            self.assertEqual(sum(map(len, kinds)) + len(barred), len(turns))


if __name__ == "__main__":
    unittest.main()
