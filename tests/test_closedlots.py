"""Point 45: closed lots of turns."""

import random
import unittest
from itertools import permutations

from lastpairs.closedlots import closed_lots, closed_with, closed_without, is_closed, is_turn_order, mirror_lot, turns_last, turns_next
from lastpairs.firm import firm_holds, firm_rings, held_by
from lastpairs.turns import all_turns, holds_of_turns, is_whole_row, turns_of, whole_row
from tests import naive
from tests.helpers import (
    crossed, is_plain, linked, many_wishes, raised, random_wishes, rich_wishes, ring_wishes, round_rings, side_by_side, sixties, squares,
    two_sided_ring, wishes_of, wrong_forms, zoo,
)

SQUARE = squares(1)
RING, OTHER = ((0, 1), (2, 3)), ((1, 2), (3, 0))
SIX = ring_wishes(6)
ROW = whole_row(SIX)
NOBODY = [wishes_of(()), wishes_of((1,), (0,)), wishes_of(*[()] * 60)]
SHAPES = [squares(1), squares(2), round_rings(3), round_rings(3, 3), SIX, ring_wishes(7), ring_wishes(8), crossed(2), *NOBODY,
          wishes_of(*two_sided_ring(8)), side_by_side(round_rings(3), SQUARE)]
# Not closed, or no lots of turns at all.
WRONG = (
    (OTHER, RING), (RING, RING), [RING], RING, (RING[::-1],), (((0, 1),),), ((),), (None,), (list(RING),), (((0, True), (2, 3)),),
    (((False, 1), (2, 3)),), None, ((RING,),), ((*RING, (1, 2)),),
)


class ClosedTest(unittest.TestCase):
    def test_ordinary(self):
        for value in ((), (RING,), (OTHER,), (RING, OTHER)):
            self.assertIs(is_closed(SQUARE, value), True)
        for at in range(5):
            self.assertIs(is_closed(wishes=SIX, value=tuple(sorted(ROW[:at]))), True)
        for lot in (ROW[1:2], ROW[3:], ROW[:1] + ROW[2:3], ROW[1:]):
            self.assertIs(is_closed(SIX, tuple(sorted(lot))), False)
        self.assertEqual(closed_with(SIX, ROW[2:3]), tuple(sorted(ROW[:3])))
        self.assertEqual(closed_with(wishes=SIX, turns=()), ())
        self.assertEqual(closed_without(SIX, ROW[2:3]), tuple(sorted(ROW[:2])))
        self.assertEqual(closed_without(wishes=SIX, turns=()), tuple(sorted(ROW)))
        self.assertEqual(closed_lots(SQUARE), ((), (RING,), (RING, OTHER), (OTHER,)))
        self.assertEqual(closed_lots(wishes=SIX), tuple(sorted(tuple(sorted(ROW[:at])) for at in range(5))))
        self.assertEqual(turns_next(SQUARE, ()), (RING, OTHER))
        self.assertEqual(turns_next(wishes=SQUARE, turns=(RING, OTHER)), ())
        self.assertEqual(turns_last(SQUARE, (RING, OTHER)), (RING, OTHER))
        self.assertEqual(turns_last(wishes=SIX, turns=tuple(sorted(ROW[:3]))), ROW[2:3])
        self.assertEqual(turns_last(SIX, ()), ())
        self.assertEqual(mirror_lot(SQUARE, (RING,)), (RING,))
        self.assertEqual(mirror_lot(wishes=SQUARE, turns=()), (RING, OTHER))
        self.assertEqual(mirror_lot(SIX, tuple(sorted(ROW[:1]))), tuple(sorted(ROW[:3])))

    def test_without_turns(self):
        for wishes in NOBODY:
            self.assertIs(is_closed(wishes, ()), True)
            self.assertEqual(closed_lots(wishes), ((),))
            for call in (closed_with, closed_without, turns_next, turns_last, mirror_lot):
                self.assertEqual(call(wishes, ()), ())
            self.assertIs(is_turn_order(wishes, ()), True)
            self.assertIs(is_turn_order(wishes, (RING,)), False)
            self.assertIs(is_closed(wishes, (RING,)), False)

    def test_closed_and_not_complete(self):
        odd = round_rings(3)
        self.assertEqual(closed_lots(odd), ((), (((0, 1), (1, 2), (2, 0)),)))
        self.assertEqual(mirror_lot(odd, ()), all_turns(odd))
        self.assertEqual(mirror_lot(odd, all_turns(odd)), ())

    def test_wrong_lots(self):
        for value in WRONG:
            self.assertIs(is_closed(SQUARE, value), False, value)

    def test_any_values(self):
        for value in zoo():
            for call in (is_closed, is_turn_order):
                self.assertIs(call(SQUARE, (RING, value)), False)
                self.assertIs(call(SQUARE, (value,)), False)
            self.assertIs(is_closed(SQUARE, value), type(value) is tuple and not value)
            self.assertIs(is_turn_order(SQUARE, value), False)
            self.assertIs(is_turn_order(wishes_of(()), value), type(value) is tuple and not value)
        for value in wrong_forms((RING, OTHER)):
            self.assertIs(is_closed(SQUARE, value), is_plain(value) and value in ((), (RING,), (OTHER,), (RING, OTHER)))
            self.assertIs(is_turn_order(SQUARE, value), is_plain(value) and value in ((RING, OTHER), (OTHER, RING)))
        for value in wrong_forms(tuple(sorted(ROW[:2]))):
            fine = is_plain(value) and value in [tuple(sorted(ROW[:at])) for at in range(5)]
            self.assertIs(is_closed(SIX, value), fine)

    def test_all_lots(self):
        chance = random.Random(45)
        many = [0, 0]
        for wishes in many_wishes(45, 80, 9, 3) + rich_wishes(45, 80) + SHAPES:
            turns = all_turns(wishes)
            if len(turns) > 9:
                continue
            closed = naive.closed_lots(wishes)
            self.assertEqual(closed_lots(wishes), tuple(closed))
            for lot in naive.lots(turns):
                self.assertIs(is_closed(wishes, lot), lot in closed)
                many[lot in closed] += 1
            for lot in chance.sample(naive.lots(turns), min(12, 2 ** len(turns))):
                above = [some for some in closed if set(lot) <= set(some)]
                self.assertEqual(closed_with(wishes, lot), min(above, key=len))
                self.assertTrue(all(set(closed_with(wishes, lot)) <= set(some) for some in above))
                apart = [some for some in closed if not set(lot) & set(some)]
                self.assertEqual(closed_without(wishes, lot), max(apart, key=len))
                self.assertEqual(mirror_lot(wishes, lot), tuple(turn for turn in turns if naive.opposite(turn) not in lot))
        self.assertGreater(min(many), 500)

    def test_next_and_last(self):
        for wishes in many_wishes(450, 60, 9, 4) + rich_wishes(450, 60) + SHAPES:
            turns = all_turns(wishes)
            for lot in closed_lots(wishes)[:40] if len(turns) < 13 else ():
                lean = [(turn, other) for turn in turns for other in turns if naive.leans(wishes, turn, other)]
                outside = [turn for turn in turns if turn not in lot]
                self.assertEqual(turns_next(wishes, lot), tuple(
                    turn for turn in outside if not any((turn, other) in lean for other in outside)
                ))
                self.assertEqual(turns_last(wishes, lot), tuple(turn for turn in lot if not any((other, turn) in lean for other in lot)))
                self.assertEqual(turns_next(wishes, lot), firm_rings(wishes, holds_of_turns(wishes, lot)))

    def test_lots_of_firm_holds(self):
        """The lots of firm holds are just the closed lots; that of the mirror is the mirror lot."""
        for wishes in many_wishes(451, 100, 9, 2) + rich_wishes(451, 60) + SHAPES:
            holds = firm_holds(wishes) if raised(firm_holds, wishes) is None else ()
            if holds:
                self.assertEqual(tuple(sorted(turns_of(wishes, some) for some in holds)), closed_lots(wishes))
            for some in holds[:20]:
                self.assertEqual(mirror_lot(wishes, turns_of(wishes, some)), turns_of(wishes, held_by(some)))


class OrderTest(unittest.TestCase):
    def test_ordinary(self):
        self.assertIs(is_turn_order(SIX, ROW), True)
        self.assertIs(is_turn_order(wishes=SIX, value=ROW[::-1]), False)
        for value in (ROW[:-1], ROW[1:], ROW + ROW[-1:], ROW + ROW[:1], (), list(ROW), ROW + (None,), ROW[1::-1] + ROW[2:]):
            self.assertIs(is_turn_order(SIX, value), False)
        self.assertIs(is_turn_order(SQUARE, (OTHER, RING)), True)
        self.assertIs(is_turn_order(SQUARE, (OTHER, OTHER)), False)

    def test_just_the_whole_rows(self):
        several = 0
        for wishes in many_wishes(452, 100, 9, 4) + rich_wishes(452, 60) + SHAPES:
            turns = all_turns(wishes)
            for value in permutations(turns) if len(turns) < 5 else [turns, turns[::-1], *naive.whole_rows(wishes, 20)]:
                fine = is_whole_row(wishes, value)
                self.assertIs(is_turn_order(wishes, value), fine)
                several += not fine
        self.assertGreater(several, 200)


class ManyTest(unittest.TestCase):
    def test_five_hundred_and_more(self):
        # These are chains of turns: each has one closed lot more than turns.
        def chains(*lengths):
            return side_by_side(*[ring_wishes(length) if length > 3 else round_rings(3) for length in lengths])

        self.assertEqual([len(closed_lots(chains(length))) for length in (3, 4, 5, 6, 7)], [2, 3, 4, 5, 6])
        exactly = chains(5, 6, 6, 6)
        self.assertEqual(len(all_turns(exactly)), 15)
        lots = closed_lots(exactly)
        self.assertEqual(len(lots), 500)
        self.assertEqual(list(lots), sorted(set(lots)))
        self.assertTrue(all(is_closed(exactly, lot) for lot in lots[::50]))
        # Tied together by one turn that all others need, and its opposite, which needs them all.
        tied = linked(ring_wishes(4), ring_wishes(6), ring_wishes(12))
        self.assertEqual(len(closed_lots(tied)), 3 * 5 * 11 + 2)
        self.assertEqual(len(naive.closed_lots(side_by_side(tied, ring_wishes(4)))), 501)
        self.assertEqual(raised(closed_lots, side_by_side(tied, ring_wishes(4))), ("Refused", "size"))
        for wishes in (chains(*[3] * 9), chains(6, 6, 6, 6), squares(5), crossed(8), side_by_side(exactly, round_rings(3)), squares(15), crossed(16)):
            self.assertEqual(raised(closed_lots, wishes), ("Refused", "size"))
        self.assertEqual(len(closed_lots(chains(*[3] * 8))), 256)
        self.assertEqual(len(closed_lots(squares(4))), 256)

    def test_sixty_persons(self):
        chance = random.Random(451)
        for wishes in sixties() + [side_by_side(crossed(16), crossed(8), crossed(4), crossed(2)), random_wishes(chance, 60, 0.2)]:
            row = whole_row(wishes)
            self.assertIs(is_turn_order(wishes, row), True)
            self.assertIs(is_turn_order(wishes, row[::-1]), len(row) < 2 or is_whole_row(wishes, row[::-1]))
            for at in (0, len(row) // 2, len(row)):
                lot = tuple(sorted(row[:at]))
                self.assertIs(is_closed(wishes, lot), True)
                self.assertEqual(closed_with(wishes, lot), lot)
                self.assertEqual(closed_without(wishes, row[at:]), lot)
                self.assertEqual(turns_next(wishes, lot), firm_rings(wishes, holds_of_turns(wishes, lot)))
                self.assertEqual(holds_of_turns(wishes, mirror_lot(wishes, lot)), held_by(holds_of_turns(wishes, lot)))
                for turn in turns_last(wishes, lot):
                    self.assertIs(is_closed(wishes, tuple(other for other in lot if other != turn)), True)


if __name__ == "__main__":
    unittest.main()
