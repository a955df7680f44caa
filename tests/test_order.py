"""Point 44: which turns lean on which, and which need which."""

import unittest

from lastpairs.firm import firm_holds
from lastpairs.order import does_lean, is_need_chain, lean_pairs, need_chain, need_pairs
from lastpairs.turns import all_turns, opposite_turn, turns_of, whole_row
from tests import naive
from tests.helpers import (
    crossed, is_plain, many_wishes, ring_wishes, round_rings, side_by_side, sixties, squares, two_sided_ring, wishes_of, wrong_forms, zoo,
)

SQUARE = squares(1)
RING, OTHER = ((0, 1), (2, 3)), ((1, 2), (3, 0))
SIX = ring_wishes(6)
SHAPES = [squares(1), squares(2), round_rings(3), round_rings(3, 3), SIX, ring_wishes(7), ring_wishes(8), crossed(2), crossed(4), crossed(8),
          wishes_of(*two_sided_ring(8)), wishes_of(())]


def lean_by_words(wishes, turns):
    return tuple((turn, other) for turn in turns for other in turns if naive.leans(wishes, turn, other))


def need_by_words(pairs):
    """All pairs that chains of leaning turns lead from and to."""
    need = set(pairs)
    while True:
        longer = {(a, d) for a, b in need for c, d in pairs if b == c} - need
        if not longer:
            return tuple(sorted(need))
        need |= longer


def distance(pairs, turn, other):
    """How many turns a shortest chain has, or None."""
    reached, many = {turn}, 1
    while other not in reached:
        further = {b for a, b in pairs if a in reached} - reached
        if not further:
            return None
        reached |= further
        many += 1
    return many


def is_chain_by_words(turns, pairs, value):
    if type(value) is not tuple or not value or not all(turn in turns for turn in value):
        return False
    return all(pair in pairs for pair in zip(value, value[1:]))


class LeanTest(unittest.TestCase):
    def test_ordinary(self):
        self.assertEqual(lean_pairs(SQUARE), ())
        self.assertIs(does_lean(SQUARE, RING, OTHER), False)
        self.assertEqual(need_pairs(wishes=SQUARE), ())
        row = whole_row(SIX)
        self.assertEqual(len(row), 4)
        self.assertEqual(lean_pairs(wishes=SIX), tuple(sorted((row[at + 1], row[at]) for at in range(3))))
        self.assertIs(does_lean(wishes=SIX, turn=row[1], other=row[0]), True)
        self.assertIs(does_lean(SIX, row[0], row[1]), False)
        self.assertIs(does_lean(SIX, row[2], row[0]), False)
        self.assertEqual(need_pairs(SIX), tuple(sorted((row[at], row[to]) for at in range(4) for to in range(at))))

    def test_a_person_in_between(self):
        """Turns that lean on one another by somebody who stands between, and comes to hold another one."""
        by_between = by_bringing = 0
        for wishes in many_wishes(440, 300, 10, 6) + [crossed(4)]:
            turns = all_turns(wishes)
            for turn in turns:
                for other in turns:
                    brought = [(giver, taker) for (giver, _), (_, taker) in zip(other, other[1:] + other[:1])]
                    if naive.leans(wishes, turn, other):
                        bringing = any(pair in turn for pair in brought)
                        by_bringing += bringing
                        by_between += not bringing
        self.assertGreater(by_between, 10)
        self.assertGreater(by_bringing, 100)

    def test_against_the_words(self):
        for wishes in many_wishes(44, 250, 10, 4) + SHAPES:
            turns = all_turns(wishes)
            pairs = lean_by_words(wishes, turns)
            self.assertEqual(lean_pairs(wishes), pairs)
            for turn in turns:
                for other in turns:
                    self.assertIs(does_lean(wishes, turn, other), (turn, other) in pairs)
            need = need_by_words(pairs)
            self.assertEqual(need_pairs(wishes), need)
            for turn, other in need:
                self.assertNotEqual(turn, other)
                self.assertIn((opposite_turn(other), opposite_turn(turn)), need)

    def test_needed_by_all_holds(self):
        """One turn needs another one exactly if all firm holds whose lot has the one have the other one in it."""
        done = 0
        for wishes in many_wishes(441, 120, 9, 4) + SHAPES[:9]:
            turns, need = all_turns(wishes), need_pairs(wishes)
            lots = [turns_of(wishes, holds) for holds in firm_holds(wishes)]
            for turn in turns:
                for other in turns:
                    if turn != other:
                        self.assertEqual(all(other in lot for lot in lots if turn in lot), (turn, other) in need)
                        done += (turn, other) in need
        self.assertGreater(done, 60)

    def test_sixty_persons(self):
        for wishes in sixties()[:3] + sixties()[-2:] + [side_by_side(crossed(16), squares(7))]:
            turns, row = all_turns(wishes), whole_row(wishes)
            pairs, need = lean_pairs(wishes), need_pairs(wishes)
            self.assertLessEqual(set(pairs), set(need))
            for turn, other in need:
                self.assertGreater(row.index(turn), row.index(other))
            for turn in turns[:8]:
                for other in turns[-8:]:
                    self.assertIs(does_lean(wishes, turn, other), (turn, other) in pairs)
                    self.assertEqual(need_chain(wishes, turn, other) is not None, turn == other or (turn, other) in need)


class ChainTest(unittest.TestCase):
    def test_ordinary(self):
        row = whole_row(SIX)
        self.assertEqual(need_chain(SIX, row[3], row[0]), row[::-1])
        self.assertEqual(need_chain(wishes=SIX, turn=row[2], other=row[1]), (row[2], row[1]))
        self.assertIsNone(need_chain(SIX, row[0], row[1]))
        self.assertIsNone(need_chain(SQUARE, RING, OTHER))
        self.assertIs(is_need_chain(SIX, row[::-1]), True)
        self.assertIs(is_need_chain(wishes=SIX, value=row), False)
        self.assertIs(is_need_chain(SIX, (row[2], row[0])), False)
        self.assertIs(is_need_chain(SIX, (row[1], row[1])), False)

    def test_of_one_turn(self):
        self.assertEqual(need_chain(SQUARE, RING, RING), (RING,))
        self.assertIs(is_need_chain(SQUARE, (RING,)), True)
        self.assertIs(is_need_chain(SQUARE, (RING[::-1],)), False)
        self.assertIs(is_need_chain(SQUARE, ()), False)
        self.assertIs(is_need_chain(SQUARE, RING), False)
        self.assertIs(is_need_chain(wishes_of(()), ()), False)
        self.assertIs(is_need_chain(wishes_of(()), (RING,)), False)

    def test_against_the_words(self):
        lengths = []
        for wishes in many_wishes(442, 200, 10, 5) + SHAPES:
            turns = all_turns(wishes)
            pairs = lean_by_words(wishes, turns)
            for turn in turns:
                for other in turns:
                    chain, many = need_chain(wishes, turn, other), distance(pairs, turn, other)
                    if many is None:
                        self.assertIsNone(chain)
                        continue
                    self.assertEqual((chain[0], chain[-1], len(chain)), (turn, other, many))
                    self.assertTrue(all(pair in pairs for pair in zip(chain, chain[1:])))
                    if many < 4:
                        self.assertIs(is_need_chain(wishes, chain), True)
                        self.assertIs(is_need_chain(wishes, chain[::-1]), many == 1)
                    lengths.append(many)
        for many in (1, 2, 3, 4):
            self.assertGreater(lengths.count(many), 10)

    def test_any_values(self):
        row = whole_row(SIX)
        for value in zoo():
            self.assertIs(is_need_chain(SIX, value), False)
            self.assertIs(is_need_chain(SIX, (row[0], value)), False)
            self.assertIs(is_need_chain(SIX, (value,)), False)
        pairs = lean_pairs(SIX)
        for value in wrong_forms((row[2], row[1])):
            self.assertIs(is_need_chain(SIX, value), is_plain(value) and is_chain_by_words(row, pairs, value))


if __name__ == "__main__":
    unittest.main()
