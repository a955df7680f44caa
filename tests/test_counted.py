"""Points 49 and 50: choices, and how many complete lots and lasting pairings there are."""

import random
import unittest

from lastpairs.counted import choices_in, count_lots, count_pairings, count_with
from lastpairs.turns import all_turns, opposite_turn
from tests import naive
from tests.helpers import (
    crossed, ladder, many_wishes, raised, rich_wishes, ring_wishes, round_rings, shaken, side_by_side, sixties, squares, two_sided_ring, wishes_of,
)

SQUARE = squares(1)
RING, OTHER = ((0, 1), (2, 3)), ((1, 2), (3, 0))
ODD = round_rings(3)
SIX = ring_wishes(6)
NOBODY = [wishes_of(()), wishes_of((1,), (0,)), wishes_of(*[()] * 60), wishes_of((1,), (0, 2), (1,))]
SHAPES = [squares(1), squares(2), ODD, round_rings(3, 3), SIX, ring_wishes(7), ring_wishes(8), crossed(2), crossed(4), *NOBODY,
          wishes_of(*two_sided_ring(8)), side_by_side(ODD, SQUARE), side_by_side(SIX, ODD)]
# Two choices, of which one turn needs a turn of the other one.
THREE = wishes_of((3, 4, 5), (4, 5, 3), (5, 3, 4), (1, 2, 0), (2, 0, 1), (0, 1, 2))


def nineteen():
    """Eight chains of two choices, and three choices apart."""
    return side_by_side(*[THREE] * 8, *[SQUARE] * 3)


class ChoicesTest(unittest.TestCase):
    def test_ordinary(self):
        self.assertEqual(choices_in(SQUARE), ((RING, OTHER),))
        self.assertEqual(choices_in(wishes=ODD), ())
        self.assertEqual(choices_in(SIX), ())
        self.assertEqual(len(choices_in(THREE)), 2)
        self.assertEqual(len(choices_in(nineteen())), 19)
        for wishes in NOBODY:
            self.assertEqual(choices_in(wishes), ())

    def test_any_number_of_choices(self):
        for wishes, many in ((crossed(8), 28), (crossed(16), 120), (side_by_side(crossed(16), crossed(8), crossed(4), crossed(2)), 155)):
            choices = choices_in(wishes)
            self.assertEqual(len(choices), many)
            self.assertEqual(list(choices), sorted(choices))
            self.assertTrue(all(one < other and opposite_turn(one) == other for one, other in choices))

    def test_against_the_words(self):
        for wishes in many_wishes(49, 120, 9, 2) + rich_wishes(49, 100) + SHAPES:
            ends = naive.ends(wishes)
            free = [turn for turn in naive.all_turns(wishes) if 0 < sum(turn in lot for lot in ends) < len(ends)]
            self.assertEqual(choices_in(wishes), tuple((turn, naive.opposite(turn)) for turn in free if turn < naive.opposite(turn)))


class CountTest(unittest.TestCase):
    def test_ordinary(self):
        self.assertEqual(count_lots(SQUARE), 2)
        self.assertEqual(count_with(SQUARE, (RING,)), 1)
        self.assertEqual(count_with(wishes=SQUARE, turns=()), 2)
        self.assertEqual(count_with(SQUARE, (RING, OTHER)), 0)
        self.assertEqual(count_pairings(wishes=SQUARE), 2)
        self.assertEqual(count_lots(wishes=THREE), 3)
        self.assertEqual(count_pairings(THREE), 3)
        self.assertEqual(count_lots(side_by_side(THREE, SQUARE)), 6)

    def test_odd_turns_and_sure_ones(self):
        self.assertEqual(count_lots(ODD), 1)
        self.assertEqual(count_with(ODD, ()), 1)
        self.assertEqual(count_with(ODD, all_turns(ODD)), 0)
        self.assertEqual(count_pairings(ODD), 0)
        both = side_by_side(ODD, SQUARE)
        self.assertEqual((count_lots(both), count_pairings(both)), (2, 0))
        turns = all_turns(SIX)
        for turn in turns:
            self.assertEqual(count_with(SIX, (turn,)), 1 if turn in naive.complete_lots(SIX)[0] else 0)
        self.assertEqual((count_lots(SIX), count_pairings(SIX)), (1, 1))

    def test_without_turns(self):
        for wishes in NOBODY:
            self.assertEqual((count_lots(wishes), count_with(wishes, ()), count_pairings(wishes)), (1, 1, 1))

    def test_against_all_lots(self):
        chance = random.Random(50)
        counts = set()
        for wishes in many_wishes(50, 100, 9, 2) + rich_wishes(50, 140) + SHAPES:
            turns, lots = naive.all_turns(wishes), naive.complete_lots(wishes)
            self.assertEqual(count_lots(wishes), len(lots))
            for _ in range(12):
                some = tuple(sorted(chance.sample(turns, min(len(turns), chance.choice((0, 1, 1, 2, 2, 3, 4))))))
                self.assertEqual(count_with(wishes, some), sum(set(some) <= set(lot) for lot in lots))
            if len(wishes.names) < 10:
                self.assertEqual(count_pairings(wishes), len(naive.lasting(wishes)))
            odd = any(naive.opposite(turn) == turn for turn in turns)
            self.assertEqual(count_pairings(wishes), 0 if odd else len(lots))
            counts.add(len(lots))
        self.assertLessEqual({1, 2, 3, 4, 5, 7, 8, 10}, counts)


class ManyTest(unittest.TestCase):
    def test_choices_apart(self):
        """Choices that no turn ties to one another: the numbers are multiplied."""
        self.assertEqual(count_lots(squares(15)), 2 ** 15)
        self.assertEqual(count_pairings(squares(15)), 32768)
        self.assertEqual(count_with(squares(15), ()), 32768)
        self.assertEqual(count_with(squares(15), (((4, 5), (6, 7)), ((8, 9), (10, 11)), ((13, 14), (15, 12)))), 4096)
        self.assertEqual(count_lots(side_by_side(*[THREE] * 10)), 3 ** 10)
        self.assertEqual(count_pairings(nineteen()), 3 ** 8 * 8)
        self.assertEqual(count_lots(side_by_side(*[crossed(4)] * 4, *[SQUARE] * 6)), 10 ** 4 * 2 ** 6)

    def test_more_than_a_million(self):
        # Of a ladder with many rungs the numbers are those of Lucas.
        lucas = [2, 1]
        while len(lucas) < 31:
            lucas.append(lucas[-1] + lucas[-2])
        for many in (6, 8, 10):
            self.assertEqual(count_lots(ladder(many)), lucas[many])
            self.assertEqual(len(naive.complete_lots(ladder(many))) if many < 8 else lucas[many], lucas[many])
        self.assertEqual(len(choices_in(ladder(30))), 30)
        self.assertEqual(count_lots(ladder(30)), 1860498)
        self.assertEqual(count_pairings(side_by_side(ladder(16), ladder(14))), 2207 * 843)
        self.assertGreater(2207 * 843, 10 ** 6)
        first = choices_in(ladder(30))[0]
        self.assertEqual(sum(count_with(ladder(30), (turn,)) for turn in first), 1860498)

    def test_thirty_and_thirty_one(self):
        exactly = side_by_side(crossed(8), THREE)
        self.assertEqual(len(choices_in(exactly)), 30)
        self.assertEqual(count_lots(exactly), 3 * count_lots(crossed(8)))
        more = side_by_side(crossed(8), THREE, SQUARE)
        self.assertEqual(len(choices_in(more)), 31)
        turns = all_turns(more)
        for call in (count_lots, count_pairings):
            self.assertEqual(raised(call, more), ("Refused", "size"))
        # The size comes first, whether or not some lot has these turns.
        for some in ((), turns, turns[:1], turns[-2:]):
            self.assertEqual(raised(count_with, more, some), ("Refused", "size"))

    def test_odd_turns_and_many_choices(self):
        wishes = side_by_side(crossed(16), ODD)
        self.assertEqual(len(choices_in(wishes)), 120)
        self.assertEqual(count_pairings(wishes), 0)
        for call, told in ((count_lots, ()), (count_with, ((),))):
            self.assertEqual(raised(call, wishes, *told), ("Refused", "size"))

    def test_tied_choices(self):
        """Twenty and more choices that are tied to one another, counted by closed lots on one side."""
        chance = random.Random(501)
        for wishes in [crossed(8)] + [shaken(crossed(8), chance, swaps) for swaps in (1, 2, 4, 8, 16)]:
            lots = self.lots_of_one_side(wishes)
            if lots is not None and len(choices_in(wishes)) <= 30:
                self.assertEqual(count_lots(wishes), lots)

    def lots_of_one_side(self, wishes):
        """With two sides, complete lots are closed lots of the turns in which one side gives."""
        turns = [turn for turn in all_turns(wishes) if all(giver < 8 for giver, _ in turn)]
        if 2 * len(turns) != len(all_turns(wishes)):
            return None
        causes = [[at for at, other in enumerate(turns) if naive.leans(wishes, turn, other)] for turn in turns]
        met, waiting = {frozenset()}, [frozenset()]
        while waiting:
            lot = waiting.pop()
            for at, needed in enumerate(causes):
                more = lot | {at}
                if at not in lot and lot.issuperset(needed) and more not in met:
                    met.add(more)
                    waiting.append(more)
        return len(met)

    def test_sixty_persons(self):
        for wishes in sixties():
            self.assertEqual(count_pairings(wishes) == 0, any(opposite_turn(turn) == turn for turn in all_turns(wishes)))
            self.assertGreater(count_lots(wishes), 0)
            for one, other in choices_in(wishes)[:3]:
                self.assertEqual(count_with(wishes, (one,)) + count_with(wishes, (other,)), count_lots(wishes))


if __name__ == "__main__":
    unittest.main()
