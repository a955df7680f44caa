"""Point 54: chains, and what conditions say of turns."""

import random
import unittest

from lastpairs.conditions import is_condition
from lastpairs.turnviews import chain_of, clauses_of, turn_with
from tests import naive
from tests.helpers import (
    crossed, many_wishes, rich_wishes, ring_wishes, round_rings, side_by_side, sixties, squares, two_sided_ring, wishes_of,
)

SQUARE = squares(1)
RING, OTHER = ((0, 1), (2, 3)), ((1, 2), (3, 0))
ODD = wishes_of((1, 2), (2, 0), (0, 1))
ODD_RING = ((0, 1), (1, 2), (2, 0))
SHAPES = [squares(1), squares(2), round_rings(3), round_rings(3, 4), ring_wishes(6), ring_wishes(7), crossed(2), crossed(4), wishes_of(()),
          wishes_of(*two_sided_ring(8)), wishes_of((1,), (0, 2), (1,)), side_by_side(ODD, SQUARE)]


def turn_by_words(wishes, giver, taker):
    found = [turn for turn in naive.all_turns(wishes) if (giver, taker) in turn]
    return found[0] if found else None


def clauses_by_words(wishes, condition):
    word, i, j = condition[:3]
    if word == "either":
        return tuple(
            tuple(sorted({*one, *other}))
            for one in clauses_by_words(wishes, ("with", i, j)) for other in clauses_by_words(wishes, ("with",) + condition[3:])
        )
    chain = naive.chains(wishes)[i]
    if word in ("with", "without"):
        turns = [turn for turn in (turn_by_words(wishes, i, j), turn_by_words(wishes, j, i)) if turn is not None]
        if j not in chain:
            return ((),) if word == "with" else ()
        return tuple((naive.opposite(turn),) for turn in turns) if word == "with" else (tuple(sorted(set(turns))),)
    ranks = [naive.rank(wishes, i, one) for one in chain]
    fine = [one for one, rank in zip(chain, ranks) if (rank <= j if word == "best" else rank < j)]
    if not fine:
        return ((),) if word == "best" else ()
    turn = turn_by_words(wishes, i, fine[-1])
    if word == "best":
        return () if turn is None else ((naive.opposite(turn),),)
    return ((),) if turn is None else ((turn,),)


def all_conditions(wishes, chance, most=200):
    """All conditions with one or two persons, and some of those with four."""
    some = naive.persons(wishes)
    found = [(word, i, j) for word in ("with", "without") for i in some for j in some if i != j]
    found += [(word, i, rank) for word in ("best", "worst") for i in some for rank in range(len(wishes.lists[i]) + 2)]
    pairs = [(i, j) for i in some for j in some if i != j]
    found += [("either", *chance.choice(pairs), *chance.choice(pairs)) for _ in range(most // 4 if pairs else 0)]
    return found if len(found) <= most else chance.sample(found, most)


class ChainTest(unittest.TestCase):
    def test_ordinary(self):
        self.assertEqual(chain_of(SQUARE, 0), (1, 3))
        self.assertEqual(chain_of(wishes=SQUARE, person=3), (0, 2))
        self.assertEqual(chain_of(ODD, 0), (1, 2))
        self.assertEqual(turn_with(SQUARE, 0, 1), RING)
        self.assertEqual(turn_with(wishes=SQUARE, giver=3, taker=0), OTHER)
        self.assertIsNone(turn_with(SQUARE, 0, 3))
        self.assertIsNone(turn_with(SQUARE, 0, 2))
        self.assertEqual(turn_with(ODD, 2, 0), ODD_RING)

    def test_whom_nobody_holds(self):
        wishes = wishes_of((1,), (0, 2), (1,))
        self.assertEqual([chain_of(wishes, person) for person in range(3)], [(1,), (0,), ()])
        self.assertEqual(chain_of(wishes_of(()), 0), ())
        self.assertEqual(chain_of(wishes_of(*[()] * 60), 59), ())
        self.assertIsNone(turn_with(wishes, 0, 1))
        self.assertIsNone(turn_with(wishes, 2, 1))

    def test_against_the_words(self):
        longest = 0
        for wishes in many_wishes(54, 120, 9, 2) + rich_wishes(54, 60) + SHAPES:
            turns = naive.all_turns(wishes)
            for person in naive.persons(wishes):
                chain = chain_of(wishes, person)
                self.assertEqual(chain, naive.chains(wishes)[person])
                # Who is on a chain has the person on its own one.
                self.assertTrue(all(person in chain_of(wishes, other) for other in chain))
                longest = max(longest, len(chain))
            pairs = {pair: turn for turn in turns for pair in turn}
            for giver in naive.persons(wishes):
                for taker in naive.persons(wishes):
                    if giver != taker:
                        self.assertEqual(turn_with(wishes, giver, taker), pairs.get((giver, taker)))
        self.assertGreater(longest, 3)

    def test_sixty_persons(self):
        for wishes in sixties():
            for person in (0, 17, 59):
                self.assertEqual(chain_of(wishes, person), naive.chains(wishes)[person])


class ClausesTest(unittest.TestCase):
    def check(self, wishes, condition, *clauses):
        self.assertTrue(is_condition(wishes, condition))
        self.assertEqual(clauses_of(wishes, condition), clauses)
        self.assertEqual(clauses_by_words(wishes, condition), clauses)

    def test_pairs(self):
        # 0 is let go by 1 in the one turn, and 1 by 0 in the opposite of it.
        self.check(SQUARE, ("with", 0, 1), (OTHER,))
        self.check(SQUARE, ("with", 1, 0), (OTHER,))
        self.check(SQUARE, ("with", 0, 3), (RING,))
        self.check(SQUARE, ("without", 0, 1), (RING,))
        self.check(SQUARE, ("without", 3, 0), (OTHER,))
        # Not on the chain: never mates, on each other's lists or not.
        self.check(SQUARE, ("with", 0, 2), ())
        self.check(SQUARE, ("without", 0, 2))
        self.assertEqual(clauses_of(wishes=SQUARE, condition=("with", 1, 3)), ((),))
        full = crossed(2)
        self.check(side_by_side(full, wishes_of(())), ("with", 0, 4), ())

    def test_both_ways_by_turns(self):
        """Pairs that are left behind by each of the two, in two turns, or in one and the same."""
        self.check(ODD, ("with", 0, 1), (ODD_RING,))
        self.check(ODD, ("without", 0, 1), (ODD_RING,))
        self.check(ODD, ("either", 0, 1, 1, 2), (ODD_RING,))
        two = same = 0
        for wishes in rich_wishes(540, 60) + many_wishes(540, 200, 10, 6) + [crossed(4), ring_wishes(9)]:
            for i in naive.persons(wishes):
                for j in chain_of(wishes, i):
                    one, other = turn_with(wishes, i, j), turn_with(wishes, j, i)
                    if one is not None and other is not None:
                        back = naive.opposite(one), naive.opposite(other)
                        self.check(wishes, ("with", i, j), (back[0],), (back[1],))
                        self.check(wishes, ("without", i, j), tuple(sorted({one, other})))
                        two, same = two + (one != other), same + (one == other)
        self.assertGreater(two, 100)
        self.assertGreater(same, 0)

    def test_sure_pairs(self):
        """On the chain, and no turn: mates in all lasting pairings."""
        wishes = wishes_of((1,), (0, 2), (1,))
        self.check(wishes, ("with", 0, 1))
        self.check(wishes, ("without", 0, 1), ())
        self.check(wishes, ("without", 1, 0), ())
        self.check(wishes, ("either", 0, 1, 1, 2))
        self.check(wishes, ("either", 1, 2, 0, 2), ())

    def test_ranks(self):
        self.check(SQUARE, ("best", 0, 0), (OTHER,))
        # The last one on the chain is one with whom there is no turn.
        for rank in (1, 2, 60, 10**30):
            self.check(SQUARE, ("best", 0, rank))
        self.check(SQUARE, ("worst", 0, 0))
        self.check(SQUARE, ("worst", 0, 1), (RING,))
        for rank in (2, 3, 60, 10**30):
            self.check(SQUARE, ("worst", 0, rank), ())

    def test_ranks_of_those_behind(self):
        """The first one on the chain need not be the first one on the list."""
        wishes = wishes_of((4, 1, 3), (2, 0), (3, 1), (0, 2), (5, 0), (4,))
        self.assertEqual(chain_of(wishes, 0), (1, 3))
        ring, other = turn_with(wishes, 0, 1), turn_with(wishes, 3, 0)
        self.check(wishes, ("best", 0, 0), ())
        self.check(wishes, ("best", 0, 1), (other,))
        self.check(wishes, ("best", 0, 2))
        self.check(wishes, ("worst", 0, 0))
        self.check(wishes, ("worst", 0, 1))
        self.check(wishes, ("worst", 0, 2), (ring,))
        self.check(wishes, ("worst", 0, 3), ())

    def test_whom_nobody_holds(self):
        wishes = wishes_of((1,), (0, 2), (1,))
        for rank in (0, 1, 9):
            self.check(wishes, ("best", 2, rank), ())
            self.check(wishes, ("worst", 2, rank))
        self.check(wishes, ("with", 2, 1), ())
        self.check(wishes, ("with", 1, 2), ())
        self.check(wishes, ("without", 2, 1))
        self.check(wishes, ("without", 0, 2))
        self.check(wishes, ("either", 2, 1, 2, 0), ())

    def test_either(self):
        self.check(SQUARE, ("either", 0, 1, 0, 3), (RING, OTHER))
        self.check(SQUARE, ("either", 0, 1, 2, 3), (OTHER,))
        # The one clause is empty: what is left is the other one.
        self.check(SQUARE, ("either", 0, 2, 0, 3), (RING,))
        self.check(SQUARE, ("either", 0, 3, 2, 0), (RING,))
        self.check(SQUARE, ("either", 0, 2, 1, 3), ())
        self.check(SQUARE, ("either", 0, 2, 2, 0), ())
        two = squares(2)
        self.check(two, ("either", 0, 1, 4, 5), (OTHER, ((5, 6), (7, 4))))
        self.check(two, ("either", 4, 7, 0, 1), (((4, 5), (6, 7)), OTHER)[::-1])

    def test_either_with_several_clauses(self):
        lengths = set()
        chance = random.Random(541)
        for wishes in rich_wishes(541, 40) + [crossed(4)]:
            turned = [(i, j) for i in naive.persons(wishes) for j in chain_of(wishes, i)]
            for _ in range(30 if turned else 0):
                condition = ("either", *chance.choice(turned), *chance.choice(turned))
                clauses = clauses_of(wishes, condition)
                self.assertEqual(clauses, clauses_by_words(wishes, condition))
                lengths.add((len(clauses), tuple(map(len, clauses))))
        self.assertIn((4, (2, 2, 2, 2)), lengths)
        self.assertIn((2, (2, 2)), lengths)
        self.assertTrue(any(many == 4 and 1 in some for many, some in lengths))

    def test_against_the_words(self):
        chance = random.Random(542)
        for wishes in many_wishes(542, 60, 8) + rich_wishes(542, 40) + SHAPES:
            for condition in all_conditions(wishes, chance, 120):
                self.assertEqual(clauses_of(wishes, condition), clauses_by_words(wishes, condition))

    def test_in_italics(self):
        """Without odd rings a lasting pairing meets a condition exactly if each clause has a turn of its lot."""
        chance = random.Random(543)
        met = missed = 0
        for wishes in [w for w in many_wishes(543, 120, 8) + rich_wishes(543, 60) + SHAPES if naive_even(w)]:
            told = [(naive.pairing_of_parting(naive.parting_of_lot(wishes, lot)), lot) for lot in naive.complete_lots(wishes)]
            for condition in all_conditions(wishes, chance, 80):
                clauses = clauses_of(wishes, condition)
                for pairing, lot in told:
                    fine = all(any(turn in lot for turn in clause) for clause in clauses)
                    self.assertEqual(fine, meets_by_words(wishes, pairing, condition))
                    met, missed = met + fine, missed + (not fine)
        self.assertGreater(met, 1000)
        self.assertGreater(missed, 1000)


def naive_even(wishes):
    return not any(naive.opposite(turn) == turn for turn in naive.all_turns(wishes))


def meets_by_words(wishes, pairing, condition):
    word, i, j = condition[:3]
    mate = naive.mate(pairing, i)
    if word == "with":
        return mate == j
    if word == "without":
        return mate != j
    if word == "either":
        return mate == j or naive.mate(pairing, condition[3]) == condition[4]
    if word == "best":
        return mate is not None and naive.rank(wishes, i, mate) <= j
    return mate is None or naive.rank(wishes, i, mate) >= j


if __name__ == "__main__":
    unittest.main()
