"""Points 46 and 47: complete lots, what they tell, and closed lots that are completed."""

import random
import unittest

from lastpairs.completelots import (
    complete_lots, completed_lot, is_complete_lot, lot_of_pairing, pairing_of_lot, pairings_by_lots, parting_of_lot,
)
from lastpairs.counted import count_lots
from lastpairs.plain import lasting_pairings
from lastpairs.turns import all_turns, whole_row
from tests import naive
from tests.helpers import (
    crossed, is_plain, ladder, linked, many_wishes, raised, rich_wishes, ring_wishes, round_rings, side_by_side, sixties, squares, two_sided_ring,
    wishes_of, wrong_forms, zoo,
)

SQUARE = squares(1)
RING, OTHER = ((0, 1), (2, 3)), ((1, 2), (3, 0))
ONE, TWO = ((0, 1), (2, 3)), ((0, 3), (1, 2))
ODD = round_rings(3)
ODD_RING = ((0, 1), (1, 2), (2, 0))
SIX = ring_wishes(6)
ROW = whole_row(SIX)
SURE = tuple(sorted(ROW[:2]))
NOBODY = [wishes_of(()), wishes_of((1,), (0,)), wishes_of(*[()] * 60), wishes_of((1,), (0, 2), (1,))]
SHAPES = [squares(1), squares(2), ODD, round_rings(3, 3), round_rings(3, 4), SIX, ring_wishes(7), ring_wishes(8), crossed(2), crossed(4), *NOBODY,
          wishes_of(*two_sided_ring(8)), side_by_side(ODD, SQUARE), side_by_side(SIX, ODD)]
# Not closed, not complete, or no lots of turns at all.
WRONG = (
    (), (OTHER, RING), (RING, OTHER), (RING, RING), [RING], RING, (RING[::-1],), (((0, 1),),), ((),), (None,), (list(RING),), None, ((RING,),),
    (((0, True), (2, 3)),), (((False, 1), (2, 3)),), (((0, 1.0), (2, 3)),), (ODD_RING,),
)


def told_by_trying(wishes):
    """All lasting partings whose rings of an even number of persons have two each."""
    return [parting for parting in naive.lasting_partings(wishes) if all(len(ring) % 2 or len(ring) == 2 for ring in naive.rings(parting))]


class CompleteTest(unittest.TestCase):
    def test_ordinary(self):
        self.assertEqual(complete_lots(SQUARE), ((RING,), (OTHER,)))
        self.assertIs(is_complete_lot(SQUARE, (RING,)), True)
        self.assertIs(is_complete_lot(wishes=SQUARE, value=(OTHER,)), True)
        self.assertEqual(parting_of_lot(SQUARE, (RING,)), (3, 2, 1, 0))
        self.assertEqual(pairing_of_lot(SQUARE, (RING,)), TWO)
        self.assertEqual(pairing_of_lot(wishes=SQUARE, turns=(OTHER,)), ONE)
        self.assertEqual(lot_of_pairing(SQUARE, ONE), (OTHER,))
        self.assertEqual(lot_of_pairing(wishes=SQUARE, pairing=TWO), (RING,))
        self.assertEqual(pairings_by_lots(SQUARE), (ONE, TWO))
        self.assertEqual(complete_lots(wishes=SIX), (SURE,))
        self.assertEqual(parting_of_lot(wishes=SIX, turns=SURE), (3, 4, 5, 0, 1, 2))
        self.assertEqual(pairings_by_lots(wishes=SIX), (((0, 3), (1, 4), (2, 5)),))

    def test_without_turns(self):
        for wishes in NOBODY:
            pairing = () if not wishes.lists[0] else ((0, 1),)
            self.assertEqual(complete_lots(wishes), ((),))
            self.assertIs(is_complete_lot(wishes, ()), True)
            self.assertEqual(pairing_of_lot(wishes, ()), pairing)
            self.assertEqual(lot_of_pairing(wishes, pairing), ())
            self.assertEqual(pairings_by_lots(wishes), (pairing,))
            self.assertEqual(completed_lot(wishes, ()), ())
            self.assertEqual(parting_of_lot(wishes, ())[2:], tuple(naive.persons(wishes))[2:])

    def test_odd_turns(self):
        self.assertEqual(complete_lots(ODD), ((),))
        self.assertEqual(parting_of_lot(ODD, ()), (1, 2, 0))
        self.assertEqual(pairings_by_lots(ODD), ())
        # Which error comes ahead: a lot that is none, then odd turns.
        self.assertEqual(raised(pairing_of_lot, ODD, ()), ("Refused", "odd"))
        self.assertEqual(raised(pairing_of_lot, ODD, (ODD_RING,)), ("Refused", "turns"))
        self.assertEqual(raised(pairing_of_lot, ODD, None), ("Refused", "turns"))
        self.assertEqual(raised(parting_of_lot, ODD, (ODD_RING,)), ("Refused", "turns"))
        both = side_by_side(ODD, SQUARE)
        self.assertEqual(len(complete_lots(both)), 2)
        self.assertEqual({parting_of_lot(both, lot) for lot in complete_lots(both)}, {(1, 2, 0, 4, 3, 6, 5), (1, 2, 0, 6, 5, 4, 3)})

    def test_pairings_that_do_not_last(self):
        for pairing in ((), ((0, 1),), ((0, 1), (2, 3))):
            self.assertEqual(raised(lot_of_pairing, ring_wishes(4), pairing), ("Refused", "pairing"))
        for pairing in ((), ((0, 1),), ((0, 2),)):
            self.assertEqual(raised(lot_of_pairing, ODD, pairing), ("Refused", "pairing"))
        for wishes in many_wishes(46, 40, 6):
            for pairing in naive.pairings(wishes)[:30]:
                error = ("Refused", "pairing") if naive.blocks(wishes, pairing) else None
                self.assertEqual(raised(lot_of_pairing, wishes, pairing), error)

    def test_wrong_lots(self):
        for value in WRONG:
            self.assertIs(is_complete_lot(SQUARE, value), False, value)
            for call in (parting_of_lot, pairing_of_lot):
                self.assertEqual(raised(call, SQUARE, value), ("Refused", "turns"), value)
        # Complete and not closed, closed and not complete.
        for lot in (ROW[2:], ROW[:1], ROW[:3], ROW, (), (ROW[0], ROW[2]), ROW[1:3]):
            self.assertIs(is_complete_lot(SIX, tuple(sorted(lot))), False)
            self.assertEqual(raised(pairing_of_lot, SIX, tuple(sorted(lot))), ("Refused", "turns"))
        self.assertIs(is_complete_lot(SIX, SURE[::-1]), False)

    def test_any_values(self):
        for value in zoo():
            for some in (value, (value,), (RING, value)):
                self.assertIs(is_complete_lot(SQUARE, some), False)
                for call in (parting_of_lot, pairing_of_lot):
                    self.assertEqual(raised(call, SQUARE, some), ("Refused", "turns"))
        for value in wrong_forms((RING,)):
            fine = is_plain(value) and value in ((RING,), (OTHER,))
            self.assertIs(is_complete_lot(SQUARE, value), fine)
            self.assertEqual(raised(parting_of_lot, SQUARE, value), None if fine else ("Refused", "turns"))
        for value in wrong_forms(SURE):
            self.assertIs(is_complete_lot(SIX, value), is_plain(value) and value == SURE)

    def test_against_the_words(self):
        several = 0
        for wishes in many_wishes(460, 120, 9, 2) + rich_wishes(460, 120) + SHAPES:
            turns, lots = naive.all_turns(wishes), naive.complete_lots(wishes)
            self.assertEqual(complete_lots(wishes), tuple(lots))
            for lot in naive.lots(turns) if len(turns) < 8 else naive.closed_lots(wishes)[:60]:
                self.assertIs(is_complete_lot(wishes, lot), lot in lots)
            odd = any(naive.opposite(turn) == turn for turn in turns)
            for lot in lots:
                parting = naive.parting_of_lot(wishes, lot)
                self.assertEqual(parting_of_lot(wishes, lot), parting)
                if odd:
                    self.assertEqual(raised(pairing_of_lot, wishes, lot), ("Refused", "odd"))
                else:
                    pairing = naive.pairing_of_parting(parting)
                    self.assertEqual(pairing_of_lot(wishes, lot), pairing)
                    self.assertEqual(lot_of_pairing(wishes, pairing), lot)
            several += len(lots) > 2
        self.assertGreater(several, 30)

    def test_all_that_lasts(self):
        """Without odd turns all lasting pairings, otherwise all lasting partings with no longer even rings."""
        for wishes in many_wishes(461, 100, 6, 2) + [some for some in SHAPES if len(some.names) < 8]:
            partings = sorted(parting_of_lot(wishes, lot) for lot in complete_lots(wishes))
            self.assertEqual(partings, told_by_trying(wishes))
            self.assertEqual(len(set(partings)), len(partings))
        for wishes in many_wishes(462, 60, 12, 7) + rich_wishes(462, 60) + SHAPES:
            if len(wishes.names) < 13:
                self.assertEqual(pairings_by_lots(wishes), lasting_pairings(wishes))


class CompletedTest(unittest.TestCase):
    def test_ordinary(self):
        self.assertEqual(completed_lot(SQUARE, (RING,)), (RING,))
        self.assertIn(completed_lot(wishes=SQUARE, turns=()), ((RING,), (OTHER,)))
        self.assertEqual(completed_lot(SIX, ()), SURE)
        self.assertEqual(completed_lot(SIX, ROW[:1]), SURE)
        self.assertEqual(completed_lot(ODD, ()), ())

    def test_wrong_lots(self):
        for value in WRONG[1:]:
            self.assertEqual(raised(completed_lot, SQUARE, value), ("Refused", "turns"), value)
        # A turn and its opposite, one that is its own, and lots that are not closed.
        self.assertEqual(raised(completed_lot, ODD, (ODD_RING,)), ("Refused", "turns"))
        for lot in (ROW, ROW[:3], ROW[1:2], ROW[2:]):
            self.assertEqual(raised(completed_lot, SIX, tuple(sorted(lot))), ("Refused", "turns"))

    def test_any_values(self):
        for value in zoo():
            self.assertEqual(raised(completed_lot, SQUARE, (value,)), ("Refused", "turns"))
            empty = type(value) is tuple and not value
            self.assertEqual(raised(completed_lot, SQUARE, value), None if empty else ("Refused", "turns"))
        for value in wrong_forms((RING,)):
            fine = is_plain(value) and value in ((), (RING,), (OTHER,))
            self.assertEqual(raised(completed_lot, SQUARE, value), None if fine else ("Refused", "turns"))

    def test_all_closed_lots(self):
        done = refused = 0
        for wishes in many_wishes(47, 80, 9, 3) + rich_wishes(47, 80) + SHAPES:
            lots = naive.complete_lots(wishes)
            for lot in naive.closed_lots(wishes)[:100]:
                if any(naive.opposite(turn) in lot for turn in lot):
                    self.assertEqual(raised(completed_lot, wishes, lot), ("Refused", "turns"))
                    refused += 1
                else:
                    self.assertIn(completed_lot(wishes, lot), [some for some in lots if set(lot) <= set(some)])
                    done += 1
        self.assertGreater(min(done, refused), 400)


class ManyTest(unittest.TestCase):
    def test_five_hundred_and_more(self):
        three = wishes_of((3, 4, 5), (4, 5, 3), (5, 3, 4), (1, 2, 0), (2, 0, 1), (0, 1, 2))
        self.assertEqual(len(complete_lots(three)), 3)
        five = wishes_of(*two_sided_ring(10))
        self.assertEqual(len(complete_lots(five)), 5)
        # Five times five times five times four.
        exactly = side_by_side(five, five, five, squares(2))
        lots = complete_lots(exactly)
        self.assertEqual(len(lots), 500)
        self.assertEqual(list(lots), sorted(set(lots)))
        self.assertEqual(len(pairings_by_lots(exactly)), 500)
        self.assertEqual(list(pairings_by_lots(exactly)), sorted(set(pairings_by_lots(exactly))))
        self.assertEqual(len(complete_lots(squares(8))), 256)
        # One turn more, which all others on its side need.
        tied = linked(five, five, five, wishes_of(*two_sided_ring(8)))
        self.assertEqual(count_lots(tied), 501)
        for call in (complete_lots, pairings_by_lots):
            self.assertEqual(raised(call, tied), ("Refused", "size"))
        for wishes in (squares(9), side_by_side(exactly, SQUARE), crossed(16), ladder(30), side_by_side(three, three, three, three, three, three)):
            self.assertEqual(raised(complete_lots, wishes), ("Refused", "size"))
            self.assertEqual(raised(pairings_by_lots, wishes), ("Refused", "size"))
        # With odd turns there are no pairings, however many lots there are.
        for wishes in (side_by_side(ODD, squares(9)), side_by_side(crossed(16), ODD)):
            self.assertEqual(raised(complete_lots, wishes), ("Refused", "size"))
            self.assertEqual(pairings_by_lots(wishes), ())
        self.assertEqual(len(complete_lots(side_by_side(exactly, ODD))), 500)
        self.assertEqual(pairings_by_lots(side_by_side(exactly, ODD)), ())

    def test_sixty_persons(self):
        chance = random.Random(463)
        for wishes in sixties() + [side_by_side(crossed(16), crossed(8), crossed(4), crossed(2)), ladder(30)]:
            lot = completed_lot(wishes, ())
            self.assertIs(is_complete_lot(wishes, lot), True)
            parting = parting_of_lot(wishes, lot)
            self.assertEqual(parting, naive.parting_of_lot(wishes, lot))
            if not naive.odd_rings(parting):
                self.assertEqual(lot_of_pairing(wishes, pairing_of_lot(wishes, lot)), lot)
            if lot:
                less = tuple(turn for turn in lot if turn != chance.choice(lot))
                self.assertIs(is_complete_lot(wishes, less), len(less) == len(lot))
                self.assertIs(is_complete_lot(wishes, all_turns(wishes)), False)


if __name__ == "__main__":
    unittest.main()
