"""Points 41 and 42: all turns, and the lots of them that firm holds are."""

import random
import unittest
from itertools import permutations

from lastpairs.firm import firm_holds, held_by
from lastpairs.left import is_steady
from lastpairs.proposals import asked_out
from lastpairs.turns import all_turns, holds_of_turns, is_whole_row, opposite_turn, turns_of, whole_row
from tests import naive
from tests.helpers import (
    crossed, is_plain, many_wishes, raised, random_wishes, ring_wishes, round_rings, side_by_side, sixties, squares,
    two_sided_ring, wishes_of, wrong_forms, zoo,
)

SQUARE = squares(1)
ODD = wishes_of((1, 2), (2, 0), (0, 1))
RING, OTHER = ((0, 1), (2, 3)), ((1, 2), (3, 0))
ODD_RING = ((0, 1), (1, 2), (2, 0))
NOBODY = [wishes_of(()), wishes_of((1,), (0,)), wishes_of(*[()] * 60), wishes_of((1,), (0, 2), (1,))]
SHAPES = [
    squares(1), squares(2), round_rings(3), round_rings(5), round_rings(3, 3), round_rings(3, 4), ring_wishes(4),
    ring_wishes(5), ring_wishes(6), ring_wishes(8), crossed(2), crossed(4), wishes_of(*two_sided_ring(6)), *NOBODY,
]


def random_row(wishes, chance):
    """Some whole row, found by turning over any rings."""
    holds, row = naive.greatest(wishes), ()
    while naive.firm_rings(wishes, holds):
        row += (chance.choice(naive.firm_rings(wishes, holds)),)
        holds = naive.over(holds, row[-1])
    return row


def lots_of_holds(wishes, most=200):
    """For all firm holds the lot of the rings turned over on some way to them."""
    first = naive.greatest(wishes)
    lots, waiting = {first: ()}, [first]
    while waiting:
        holds = waiting.pop()
        for ring in naive.firm_rings(wishes, holds):
            after, lot = naive.over(holds, ring), tuple(sorted(lots[holds] + (ring,)))
            # The same by any way.
            assert lots.setdefault(after, lot) == lot
            if len(lots) <= most and after not in waiting:
                waiting.append(after)
    return lots


def is_row_by_words(wishes, row):
    holds = naive.greatest(wishes)
    for ring in row:
        if ring not in naive.firm_rings(wishes, holds):
            return False
        holds = naive.over(holds, ring)
    return holds == naive.mirror(naive.greatest(wishes))


class WholeRowTest(unittest.TestCase):
    def test_ordinary(self):
        self.assertIn(whole_row(SQUARE), ((RING, OTHER), (OTHER, RING)))
        self.assertIs(is_whole_row(SQUARE, (RING, OTHER)), True)
        self.assertIs(is_whole_row(wishes=SQUARE, value=(OTHER, RING)), True)
        self.assertEqual(whole_row(wishes=ODD), (ODD_RING,))
        self.assertIs(is_whole_row(ODD, (ODD_RING,)), True)
        self.assertEqual(all_turns(wishes=SQUARE), (RING, OTHER))
        self.assertEqual(all_turns(ODD), (ODD_RING,))

    def test_without_turns(self):
        for wishes in NOBODY:
            self.assertEqual(whole_row(wishes), ())
            self.assertEqual(all_turns(wishes), ())
            self.assertIs(is_whole_row(wishes, ()), True)
            self.assertIs(is_whole_row(wishes, (RING,)), False)
            self.assertIs(is_whole_row(wishes, ((),)), False)

    def test_rows_that_end_too_early_or_go_on(self):
        for wishes in (SQUARE, ring_wishes(8), crossed(4), round_rings(3, 3)):
            row = whole_row(wishes)
            self.assertIs(is_whole_row(wishes, row), True)
            for value in (row[:-1], row[1:], row + row[-1:], row + row[:1], (), row + ((),), list(row), row + (None,)):
                self.assertIs(is_whole_row(wishes, value), False)
        eight = whole_row(ring_wishes(8))
        self.assertIs(is_whole_row(ring_wishes(8), eight[::-1]), False)
        self.assertIs(is_whole_row(ring_wishes(8), (eight[1], eight[0]) + eight[2:]), False)

    def test_rings_told_in_other_ways(self):
        for value in ((RING[::-1], OTHER), (RING, OTHER[::-1]), (list(RING), OTHER), ((list(RING[0]), RING[1]), OTHER),
                      (((False, 1), (2, 3)), OTHER), (((0, True), (2, 3)), OTHER), (((0, 1.0), (2, 3)), OTHER), (RING[:1], OTHER)):
            self.assertIs(is_whole_row(SQUARE, value), False, value)

    def test_any_values(self):
        for value in zoo():
            self.assertIs(is_whole_row(SQUARE, value), False)
            self.assertIs(is_whole_row(SQUARE, (RING, value)), False)
            self.assertIs(is_whole_row(wishes_of(()), value), type(value) is tuple and not value)
        for value in wrong_forms((RING, OTHER)):
            self.assertIs(is_whole_row(SQUARE, value), is_plain(value) and value in ((RING, OTHER), (OTHER, RING)))

    def test_all_whole_rows(self):
        """All have the same rings, each once; a giver with its taker is in one of them at most."""
        chance = random.Random(41)
        several = 0
        for wishes in many_wishes(41, 150, 8, 2) + SHAPES:
            rows = naive.whole_rows(wishes, 60) + [random_row(wishes, chance)]
            for row in rows:
                self.assertIs(is_whole_row(wishes, row), True)
                self.assertEqual(tuple(sorted(row)), all_turns(wishes))
            self.assertTrue(is_row_by_words(wishes, whole_row(wishes)))
            pairs = [pair for turn in all_turns(wishes) for pair in turn]
            self.assertEqual(len(set(pairs)), len(pairs))
            several += len(set(rows)) > 1
        self.assertGreater(several, 15)

    def test_other_sequences(self):
        wrong = 0
        for wishes in many_wishes(410, 100, 8, 4) + SHAPES:
            turns = all_turns(wishes)
            for value in permutations(turns) if len(turns) < 6 else ():
                self.assertIs(is_whole_row(wishes, value), is_row_by_words(wishes, value))
                wrong += not is_row_by_words(wishes, value)
        self.assertGreater(wrong, 80)

    def test_sixty_persons(self):
        for wishes in sixties() + [side_by_side(crossed(16), crossed(8), crossed(4), crossed(2))]:
            row = whole_row(wishes)
            self.assertIs(is_whole_row(wishes, row), True)
            self.assertIs(is_whole_row(wishes, row + row[:1]), not row)
            self.assertEqual(holds_of_turns(wishes, tuple(sorted(row))), held_by(asked_out(wishes)))
            self.assertEqual({opposite_turn(turn) for turn in row}, set(row))


class OppositeTest(unittest.TestCase):
    def test_ordinary(self):
        self.assertEqual(opposite_turn(RING), OTHER)
        self.assertEqual(opposite_turn(ring=OTHER), RING)
        self.assertEqual(opposite_turn(ODD_RING), ODD_RING)
        self.assertEqual(opposite_turn(((0, 5), (1, 3), (2, 4))), ((3, 0), (4, 1), (5, 2)))
        self.assertEqual(opposite_turn(((3, 0), (4, 1), (5, 2))), ((0, 5), (1, 3), (2, 4)))

    def test_of_all_turns(self):
        own = 0
        for wishes in many_wishes(42, 200, 9, 3) + SHAPES:
            turns = all_turns(wishes)
            for turn in turns:
                self.assertEqual(opposite_turn(turn), naive.opposite(turn))
                self.assertIn(opposite_turn(turn), turns)
                self.assertEqual(opposite_turn(opposite_turn(turn)), turn)
                own += opposite_turn(turn) == turn
        self.assertGreater(own, 40)


class LotsTest(unittest.TestCase):
    def test_ordinary(self):
        self.assertEqual(holds_of_turns(SQUARE, (RING,)), (3, 2, 1, 0))
        self.assertEqual(holds_of_turns(wishes=SQUARE, turns=(OTHER,)), (1, 0, 3, 2))
        self.assertEqual(holds_of_turns(SQUARE, ()), (3, 0, 1, 2))
        self.assertEqual(holds_of_turns(SQUARE, (RING, OTHER)), (1, 2, 3, 0))
        self.assertEqual(turns_of(SQUARE, (3, 0, 1, 2)), ())
        self.assertEqual(turns_of(wishes=SQUARE, holds=(3, 2, 1, 0)), (RING,))
        self.assertEqual(turns_of(SQUARE, (1, 2, 3, 0)), (RING, OTHER))
        self.assertEqual(holds_of_turns(ODD, (ODD_RING,)), (1, 2, 0))

    def test_no_lots(self):
        for value in ((OTHER, RING), (RING, RING), [RING], RING, (RING[::-1],), (((0, 1),),), (ODD_RING,), ((),), (None,), (list(RING),),
                      (((0, True), (2, 3)),), (((False, 1), (2, 3)),), None, ((RING,),)):
            self.assertEqual(raised(holds_of_turns, SQUARE, value), ("Refused", "turns"), value)
        for wishes in NOBODY:
            self.assertEqual(holds_of_turns(wishes, ()), asked_out(wishes))
            self.assertEqual(turns_of(wishes, asked_out(wishes)), ())
            self.assertEqual(raised(holds_of_turns, wishes, (RING,)), ("Refused", "turns"))
        eight = whole_row(ring_wishes(8))
        self.assertEqual(raised(holds_of_turns, ring_wishes(8), eight[1:2]), ("Refused", "turns"))
        self.assertEqual(raised(holds_of_turns, ring_wishes(8), eight[-1:]), ("Refused", "turns"))

    def test_any_values(self):
        for value in zoo():
            empty = type(value) is tuple and not value
            self.assertEqual(raised(holds_of_turns, SQUARE, value), None if empty else ("Refused", "turns"))
            self.assertEqual(raised(holds_of_turns, SQUARE, (value,)), ("Refused", "turns"))
        for value in wrong_forms((RING, OTHER)):
            fine = is_plain(value) and value in ((), (RING,), (OTHER,), (RING, OTHER))
            self.assertEqual(raised(holds_of_turns, SQUARE, value), None if fine else ("Refused", "turns"))

    def test_lots_and_holds_are_the_same(self):
        refused = 0
        for wishes in many_wishes(420, 120, 8, 2) + SHAPES + [round_rings(3, 3, 3)]:
            told = lots_of_holds(wishes)
            if len(wishes.names) < 6:
                self.assertEqual(set(told), set(naive.firm_holds(wishes)))
            by_lot = {lot: holds for holds, lot in told.items()}
            self.assertEqual(len(by_lot), len(told))
            for holds, lot in told.items():
                self.assertEqual(turns_of(wishes, holds), lot)
            turns = all_turns(wishes)
            for lot in naive.lots(turns) if len(turns) < 9 else by_lot:
                if lot in by_lot:
                    self.assertEqual(holds_of_turns(wishes, lot), by_lot[lot])
                else:
                    self.assertEqual(raised(holds_of_turns, wishes, lot), ("Refused", "turns"))
                    refused += 1
        self.assertGreater(refused, 80)

    def test_in_italics(self):
        """Lots of the mirror, of steady holds, and of lasting partings."""
        for wishes in many_wishes(421, 120, 6, 2) + SHAPES:
            turns = all_turns(wishes)
            partings = naive.lasting_partings(wishes) if len(wishes.names) < 7 else None
            for holds in firm_holds(wishes):
                lot = turns_of(wishes, holds)
                mirror = tuple(turn for turn in turns if opposite_turn(turn) not in lot)
                self.assertEqual(turns_of(wishes, held_by(holds)), mirror)
                both = any(opposite_turn(turn) in lot for turn in lot)
                self.assertIs(is_steady(wishes, holds), not both)
                if partings is not None:
                    self.check_parting(wishes, holds, turns, lot, partings)

    def check_parting(self, wishes, holds, turns, lot, partings):
        complete = all(
            turn not in lot if opposite_turn(turn) == turn else (turn in lot) != (opposite_turn(turn) in lot) for turn in turns
        )
        followers = tuple(person if held is None else held for person, held in enumerate(held_by(holds)))
        lasts = followers in partings and all(len(ring) % 2 or len(ring) == 2 for ring in naive.rings(followers))
        self.assertIs(lasts, complete)

    def test_large_random_wishes(self):
        chance = random.Random(42)
        for wishes in [random_wishes(chance, 40, share) for share in (0.3, 1.0, 1.0)] + [crossed(16)]:
            row = random_row(wishes, chance)
            holds = naive.greatest(wishes)
            for at in range(len(row)):
                self.assertEqual(turns_of(wishes, holds), tuple(sorted(row[:at])))
                if at % 7 == 0:
                    self.assertEqual(holds_of_turns(wishes, tuple(sorted(row[:at]))), holds)
                holds = naive.over(holds, row[at])


if __name__ == "__main__":
    unittest.main()
