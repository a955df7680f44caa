"""Point 49, what it says of the first lot, the last one and the next one, and point 51: numbers."""

import random
import unittest

from lastpairs.counted import choices_in, count_lots
from lastpairs.completelots import complete_lots, is_complete_lot, lot_of_pairing, pairing_of_lot
from lastpairs.numbered import first_lot, last_lot, lot_after, lot_at, number_of_lot, number_of_pairing, pairing_at
from lastpairs.partings import lasting_pairing
from tests import naive
from tests.helpers import (
    crossed, ladder, many_wishes, raised, rich_wishes, ring_wishes, round_rings, side_by_side, sixties, squares, two_sided_ring, wishes_of, zoo,
)

SQUARE = squares(1)
RING, OTHER = ((0, 1), (2, 3)), ((1, 2), (3, 0))
ONE, TWO = ((0, 1), (2, 3)), ((0, 3), (1, 2))
ODD = round_rings(3)
THREE = wishes_of((3, 4, 5), (4, 5, 3), (5, 3, 4), (1, 2, 0), (2, 0, 1), (0, 1, 2))
NOBODY = [wishes_of(()), wishes_of((1,), (0,)), wishes_of(*[()] * 60), wishes_of((1,), (0, 2), (1,)), ring_wishes(6)]
SHAPES = [SQUARE, squares(2), squares(3), THREE, crossed(4), wishes_of(*two_sided_ring(10)), side_by_side(ODD, SQUARE), side_by_side(ring_wishes(6), THREE)]
EXACTLY, MORE = side_by_side(crossed(8), THREE), side_by_side(crossed(8), THREE, SQUARE)
# Odd turns, and more choices than are counted.
MANY_ODD = side_by_side(crossed(16), ODD)


class AfterTest(unittest.TestCase):
    def test_ordinary(self):
        self.assertEqual(first_lot(SQUARE), (RING,))
        self.assertEqual(last_lot(SQUARE), (OTHER,))
        self.assertEqual(lot_after(SQUARE, (RING,)), (OTHER,))
        self.assertIsNone(lot_after(wishes=SQUARE, turns=(OTHER,)))
        self.assertEqual(first_lot(wishes=ODD), ())
        self.assertEqual(last_lot(wishes=ODD), ())
        self.assertIsNone(lot_after(ODD, ()))

    def test_all_of_them(self):
        most = 0
        for wishes in many_wishes(49, 100, 9, 2) + rich_wishes(490, 120) + SHAPES + NOBODY:
            lots = naive.complete_lots(wishes)
            self.assertEqual((first_lot(wishes), last_lot(wishes)), (lots[0], lots[-1]))
            self.assertEqual([lot_after(wishes, lot) for lot in lots], lots[1:] + [None])
            most = max(most, len(lots))
        self.assertGreater(most, 8)

    def test_any_number_of_choices(self):
        for wishes in (MORE, MANY_ODD, side_by_side(crossed(16), crossed(8), crossed(4), crossed(2)), ladder(30)):
            first, last = first_lot(wishes), last_lot(wishes)
            self.assertLess(first, last)
            self.assertIsNone(lot_after(wishes, last))
            lot = first
            for _ in range(60):
                after = lot_after(wishes, lot)
                self.assertIs(is_complete_lot(wishes, after), True)
                self.assertLess(lot, after)
                lot = after
            self.assertLess(lot, last)


class NumbersTest(unittest.TestCase):
    def test_ordinary(self):
        self.assertEqual(lot_at(SQUARE, 0), (RING,))
        self.assertEqual(lot_at(wishes=SQUARE, number=1), (OTHER,))
        self.assertEqual(number_of_lot(SQUARE, (RING,)), 0)
        self.assertEqual(number_of_lot(wishes=SQUARE, turns=(OTHER,)), 1)
        self.assertEqual(pairing_at(SQUARE, 0), TWO)
        self.assertEqual(pairing_at(wishes=SQUARE, number=1), ONE)
        self.assertEqual(number_of_pairing(SQUARE, ONE), 1)
        self.assertEqual(number_of_pairing(wishes=SQUARE, pairing=TWO), 0)
        self.assertEqual(lot_at(ODD, 0), ())
        self.assertEqual(number_of_lot(ODD, ()), 0)

    def test_no_numbers(self):
        for wishes, many in ((SQUARE, 2), (THREE, 3), (wishes_of(()), 1), (squares(15), 32768), (EXACTLY, 804)):
            for value in (many, many + 1, 10**30, -1, True, False, 0.0, 1.0, None, "0", (0,), [0]):
                self.assertEqual(raised(lot_at, wishes, value), ("Refused", "number"), value)
                self.assertEqual(raised(pairing_at, wishes, value), ("Refused", "number"), value)
            self.assertIsNone(raised(lot_at, wishes, many - 1))
            self.assertIsNone(raised(pairing_at, wishes, 0))
        for value in zoo():
            self.assertEqual(raised(lot_at, SQUARE, value), ("Refused", "number"))
            self.assertEqual(raised(pairing_at, SQUARE, value), ("Refused", "number"))

    def test_which_error_comes_first(self):
        self.assertEqual((len(choices_in(EXACTLY)), len(choices_in(MORE))), (30, 31))
        for value in (0, 10**30, None, True):
            self.assertEqual(raised(lot_at, MORE, value), ("Refused", "size"))
            self.assertEqual(raised(lot_at, MANY_ODD, value), ("Refused", "size"))
            self.assertEqual(raised(pairing_at, MORE, value), ("Refused", "size"))
            self.assertEqual(raised(pairing_at, MANY_ODD, value), ("Refused", "odd"))
            self.assertEqual(raised(pairing_at, ODD, value), ("Refused", "odd"))
        self.assertEqual(raised(number_of_lot, MORE, first_lot(MORE)), ("Refused", "size"))
        self.assertEqual(raised(number_of_lot, MANY_ODD, first_lot(MANY_ODD)), ("Refused", "size"))
        for wishes in (MORE, MANY_ODD, ODD, SQUARE):
            self.assertEqual(raised(number_of_pairing, wishes, ()), ("Refused", "pairing"))
        self.assertEqual(raised(number_of_pairing, MORE, lasting_pairing(MORE)), ("Refused", "size"))

    def test_exactly_thirty_choices(self):
        many = count_lots(EXACTLY)
        self.assertEqual(many, 804)
        lot, at = first_lot(EXACTLY), 0
        while lot is not None:
            if at % 20 == 0 or at > 795:
                self.assertEqual(lot_at(EXACTLY, at), lot)
                self.assertEqual(number_of_lot(EXACTLY, lot), at)
                self.assertEqual(number_of_pairing(EXACTLY, pairing_at(EXACTLY, at)), at)
            lot, at = lot_after(EXACTLY, lot), at + 1
        self.assertEqual(at, many)

    def test_against_all_lots(self):
        for wishes in many_wishes(51, 100, 9, 2) + rich_wishes(51, 100) + SHAPES + NOBODY:
            lots = naive.complete_lots(wishes)
            self.assertEqual([lot_at(wishes, at) for at in range(len(lots))], lots)
            self.assertEqual([number_of_lot(wishes, lot) for lot in lots], list(range(len(lots))))
            self.assertEqual(raised(lot_at, wishes, len(lots)), ("Refused", "number"))
            if any(naive.opposite(turn) == turn for turn in naive.all_turns(wishes)):
                self.assertEqual(raised(pairing_at, wishes, 0), ("Refused", "odd"))
                continue
            for at, lot in enumerate(lots):
                pairing = naive.pairing_of_parting(naive.parting_of_lot(wishes, lot))
                self.assertEqual(pairing_at(wishes, at), pairing)
                self.assertEqual(number_of_pairing(wishes, pairing), at)
            # The lesser lot has the lesser turn of the first choice in which they are unlike.
            choices = choices_in(wishes)
            rows = [[one not in lot for one, _ in choices] for lot in lots]
            self.assertEqual(rows, sorted(rows))

    def test_many_lots(self):
        chance = random.Random(510)
        for wishes, many in ((squares(15), 32768), (ladder(30), 1860498), (side_by_side(ladder(16), ladder(14)), 2207 * 843)):
            self.assertEqual(count_lots(wishes), many)
            self.assertEqual((lot_at(wishes, 0), lot_at(wishes, many - 1)), (first_lot(wishes), last_lot(wishes)))
            for number in [0, 1, many - 1] + [chance.randrange(many) for _ in range(10)]:
                lot = lot_at(wishes, number)
                self.assertIs(is_complete_lot(wishes, lot), True)
                self.assertEqual(number_of_lot(wishes, lot), number)
                self.assertEqual(lot_of_pairing(wishes, pairing_at(wishes, number)), lot)
                self.assertEqual(pairing_at(wishes, number), pairing_of_lot(wishes, lot))
                if number + 1 < many:
                    self.assertEqual(lot_after(wishes, lot), lot_at(wishes, number + 1))

    def test_sixty_persons(self):
        for wishes in sixties():
            lots = complete_lots(wishes) if raised(complete_lots, wishes) is None else ()
            for number, lot in enumerate(lots[:20]):
                self.assertEqual(lot_at(wishes, number), lot)


if __name__ == "__main__":
    unittest.main()
