"""Point 48: turns exchanged for their opposites."""

import random
import unittest
from itertools import permutations

from lastpairs.between import rings_between
from lastpairs.closedlots import turns_last
from lastpairs.completelots import complete_lots, is_complete_lot, lot_of_pairing, pairing_of_lot
from lastpairs.exchanging import exchange_row, exchangeable, exchanged_lot, pairings_beside
from lastpairs.numbered import first_lot, last_lot
from lastpairs.turnkinds import free_turns
from lastpairs.turns import all_turns, opposite_turn
from tests import naive
from tests.helpers import (
    crossed, is_plain, ladder, many_wishes, raised, rich_wishes, ring_wishes, round_rings, side_by_side, sixties, squares, two_sided_ring,
    wishes_of, wrong_forms, zoo,
)

SQUARE = squares(1)
RING, OTHER = ((0, 1), (2, 3)), ((1, 2), (3, 0))
ONE, TWO = ((0, 1), (2, 3)), ((0, 3), (1, 2))
ODD = round_rings(3)
THREE = wishes_of((3, 4, 5), (4, 5, 3), (5, 3, 4), (1, 2, 0), (2, 0, 1), (0, 1, 2))
NOBODY = [wishes_of(()), wishes_of((1,), (0,)), wishes_of(*[()] * 60), ring_wishes(6), ODD]
SHAPES = [SQUARE, squares(2), squares(3), THREE, crossed(4), wishes_of(*two_sided_ring(10)), side_by_side(ODD, SQUARE), side_by_side(ring_wishes(6), THREE)]


def exchanged(lot, turn):
    return tuple(sorted(set(lot) - {turn} | {naive.opposite(turn)}))


def distances(lots, first):
    """How many exchanges lead from a lot to each other one, by trying."""
    far, waiting = {first: 0}, [first]
    while waiting:
        lot = waiting.pop(0)
        for turn in lot:
            after = exchanged(lot, turn)
            if after in lots and after not in far:
                far[after] = far[lot] + 1
                waiting.append(after)
    return far


class ExchangingTest(unittest.TestCase):
    def test_ordinary(self):
        self.assertEqual(exchangeable(SQUARE, (RING,)), (RING,))
        self.assertEqual(exchanged_lot(SQUARE, (RING,), RING), (OTHER,))
        self.assertEqual(exchanged_lot(wishes=SQUARE, turns=(OTHER,), turn=OTHER), (RING,))
        self.assertEqual(exchange_row(SQUARE, (RING,), (OTHER,)), (RING,))
        self.assertEqual(exchange_row(wishes=SQUARE, one=(RING,), other=(RING,)), ())
        self.assertEqual(pairings_beside(SQUARE, ONE), (TWO,))
        self.assertEqual(pairings_beside(wishes=SQUARE, pairing=TWO), (ONE,))
        lots = complete_lots(THREE)
        middle = [lot for lot in lots if len(exchangeable(wishes=THREE, turns=lot)) == 2]
        self.assertEqual(len(middle), 1)
        self.assertEqual(pairings_beside(THREE, ((0, 4), (1, 5), (2, 3))), (((0, 3), (1, 4), (2, 5)), ((0, 5), (1, 3), (2, 4))))
        self.assertEqual(pairings_beside(THREE, ((0, 3), (1, 4), (2, 5))), (((0, 4), (1, 5), (2, 3)),))

    def test_none_that_can_be_exchanged(self):
        for wishes in NOBODY:
            lot = complete_lots(wishes)[0]
            self.assertEqual(exchangeable(wishes, lot), ())
            self.assertEqual(exchange_row(wishes, lot, lot), ())
            for value in all_turns(wishes) + (RING, None, (), lot):
                self.assertEqual(raised(exchanged_lot, wishes, lot, value), ("Refused", "turn"))
        self.assertEqual(pairings_beside(wishes_of(()), ()), ())
        self.assertEqual(pairings_beside(ring_wishes(6), ((0, 3), (1, 4), (2, 5))), ())

    def test_wrong_turns(self):
        for value in (OTHER, RING[::-1], list(RING), (RING,), (list(RING[0]), RING[1]), ((0, True), (2, 3)), ((False, 1), (2, 3)), RING[:1], None):
            self.assertEqual(raised(exchanged_lot, SQUARE, (RING,), value), ("Refused", "turn"), value)
        # A sure turn, an odd one, one that another one of the lot leans on, and one outside.
        wishes = side_by_side(ring_wishes(6), THREE, ODD)
        for lot in complete_lots(wishes):
            fine = exchangeable(wishes, lot)
            for turn in all_turns(wishes):
                self.assertEqual(raised(exchanged_lot, wishes, lot, turn), None if turn in fine else ("Refused", "turn"))
            self.assertLess(len(fine), 3)

    def test_any_values(self):
        for value in zoo():
            self.assertEqual(raised(exchanged_lot, SQUARE, (RING,), value), ("Refused", "turn"))
            self.assertEqual(raised(exchanged_lot, SQUARE, (RING,), (value, (2, 3))), ("Refused", "turn"))
        for value in wrong_forms(RING):
            fine = is_plain(value) and value == RING
            self.assertEqual(raised(exchanged_lot, SQUARE, (RING,), value), None if fine else ("Refused", "turn"))

    def test_pairings_that_do_not_last(self):
        for wishes, pairing in ((SQUARE, ()), (SQUARE, ((0, 1),)), (ODD, ()), (ODD, ((0, 1),))):
            self.assertEqual(raised(pairings_beside, wishes, pairing), ("Refused", "pairing"))

    def test_against_the_words(self):
        sizes = set()
        for wishes in many_wishes(48, 100, 9, 4) + rich_wishes(48, 120) + SHAPES:
            lots, free = set(naive.complete_lots(wishes)), free_turns(wishes)
            for lot in sorted(lots)[:20]:
                some = tuple(turn for turn in lot if exchanged(lot, turn) in lots)
                self.assertEqual(exchangeable(wishes, lot), some)
                # These are the last turns that are free.
                self.assertEqual(some, tuple(turn for turn in turns_last(wishes, lot) if turn in free))
                for turn in all_turns(wishes):
                    if turn in some:
                        self.assertEqual(exchanged_lot(wishes, lot, turn), exchanged(lot, turn))
                    else:
                        self.assertEqual(raised(exchanged_lot, wishes, lot, turn), ("Refused", "turn"))
                sizes.add(len(some))
        self.assertLessEqual({0, 1, 2, 3}, sizes)

    def test_rows(self):
        longest = 0
        for wishes in many_wishes(480, 60, 9, 4) + rich_wishes(480, 60) + SHAPES:
            lots = naive.complete_lots(wishes)
            for one in lots[:8]:
                far = distances(set(lots), one)
                for other in lots:
                    row = exchange_row(wishes, one, other)
                    self.assertIs(type(row), tuple)
                    self.assertEqual(len(row), far[other])
                    self.assertEqual(sorted(row), sorted(set(one) - set(other)))
                    lot = one
                    for turn in row:
                        lot = exchanged_lot(wishes, lot, turn)
                    self.assertEqual(lot, other)
                    longest = max(longest, len(row))
        self.assertGreater(longest, 4)

    def test_rows_in_wrong_sequences(self):
        """A row in another sequence need not be one, so the sequence matters."""
        wrong = 0
        lots = complete_lots(crossed(4))
        for row in permutations(exchange_row(crossed(4), lots[0], lots[-1])):
            lot, fine = lots[0], True
            for turn in row:
                fine = fine and turn in exchangeable(crossed(4), lot)
                lot = exchanged(lot, turn)
            wrong += not fine
        self.assertGreater(wrong, 0)

    def test_pairings_beside(self):
        several = 0
        for wishes in many_wishes(481, 60, 9, 4) + rich_wishes(481, 80) + SHAPES:
            lots = set(naive.complete_lots(wishes))
            if any(naive.opposite(turn) == turn for turn in naive.all_turns(wishes)):
                continue
            for lot in sorted(lots)[:12]:
                pairing = pairing_of_lot(wishes, lot)
                beside = {naive.pairing_of_parting(naive.parting_of_lot(wishes, exchanged(lot, turn))): turn
                          for turn in lot if exchanged(lot, turn) in lots}
                self.assertEqual(pairings_beside(wishes, pairing), tuple(sorted(beside)))
                for other, turn in beside.items():
                    rings = rings_between(pairing, other)
                    self.assertEqual((len(rings), len(rings[0])), (1, 2 * len(turn)))
                several += len(beside) > 1
        self.assertGreater(several, 50)

    def test_sixty_persons(self):
        chance = random.Random(482)
        for wishes in sixties() + [side_by_side(crossed(16), crossed(8), crossed(4), crossed(2)), ladder(30)]:
            one, other = first_lot(wishes), last_lot(wishes)
            lot = one
            for turn in exchange_row(wishes, one, other):
                lot = exchanged_lot(wishes, lot, turn)
            self.assertEqual(lot, other)
            self.assertEqual(len(exchange_row(wishes, one, other)), len(set(one) - set(other)))
            for _ in range(10):
                some = exchangeable(wishes, lot)
                if some:
                    turn = chance.choice(some)
                    lot = exchanged_lot(wishes, lot, turn)
                    self.assertIs(is_complete_lot(wishes, lot), True)
                    self.assertIn(opposite_turn(turn), lot)
            if not any(opposite_turn(turn) == turn for turn in all_turns(wishes)):
                pairing = pairing_of_lot(wishes, lot)
                for beside in pairings_beside(wishes, pairing)[:5]:
                    self.assertEqual(len(set(lot_of_pairing(wishes, beside)) - set(lot)), 1)


if __name__ == "__main__":
    unittest.main()
