"""Point 64: limits, possible ranks, and lasting pairings in an order."""

import random
import unittest

from lastpairs.bounds import is_within, ranks_of_pairing
from lastpairs.limits import bounds_of_limits, keeps_limits, lasting_in_order, pairing_in_limits, possible_ranks
from lastpairs.plain import is_lasting
from tests import naive
from tests.helpers import (
    crossed, ladder, many_wishes, rich_wishes, ring_wishes, round_rings, side_by_side, sixties, squares, two_sided_ring, wishes_of,
)

SQUARE = squares(1)
ODD = wishes_of((1, 2, 3), (2, 0, 3), (0, 1, 3), (0, 1, 2))
CHAIN = wishes_of((1,), (0, 2), (1,))
NONE = (None,) * 4
ONE, OTHER = ((0, 1), (2, 3)), ((0, 3), (1, 2))
SHAPES = [squares(1), squares(2), ODD, CHAIN, round_rings(3, 4), ring_wishes(6), crossed(2), crossed(4), wishes_of(()), wishes_of(*[()] * 7),
          wishes_of(*two_sided_ring(8))]


def mate_rank(wishes, pairing, person):
    mate = naive.mate(pairing, person)
    return None if mate is None else naive.rank(wishes, person, mate)


def keeps_by_words(wishes, limits, pairing):
    for person, limit in enumerate(limits):
        if limit is not None and mate_rank(wishes, pairing, person) not in range(limit[0], limit[1] + 1):
            return False
    return True


def bounds_by_words(wishes, limits):
    bounds = []
    for person in naive.persons(wishes):
        some = [] if limits[person] is None else [limits[person][1]]
        for other, limit in enumerate(limits):
            if limit is not None and person in wishes.lists[other][:limit[0]]:
                some.append(naive.rank(wishes, person, other) - 1)
        bounds.append(min(some) if some else None)
    return tuple(bounds)


def some_limits(wishes, chance, share):
    limits = []
    for some in wishes.lists:
        numbers = [chance.choice((0, 0, 1, 1, 2, len(some), 99)), chance.choice((0, 1, 2, 3, len(some), 99))]
        limits.append(tuple(numbers) if chance.random() < share else None)
    return tuple(limits)


def in_order(wishes, lasting, order):
    """Lasting pairings, each ahead of the next one."""
    def ranks(pairing):
        return [-1 if mate_rank(wishes, pairing, person) is None else mate_rank(wishes, pairing, person) for person in order]
    return tuple(sorted(lasting, key=ranks))


class LimitsTest(unittest.TestCase):
    def test_ordinary(self):
        self.assertEqual(bounds_of_limits(SQUARE, ((1, 1), None, None, None)), (1, 0, None, None))
        self.assertEqual(bounds_of_limits(wishes=SQUARE, limits=NONE), NONE)
        self.assertIs(keeps_limits(SQUARE, ((1, 1), None, None, None), OTHER), True)
        self.assertIs(keeps_limits(wishes=SQUARE, limits=((1, 1), None, None, None), pairing=ONE), False)
        self.assertIs(keeps_limits(SQUARE, ((0, 1),) * 4, ONE), True)
        self.assertIs(keeps_limits(SQUARE, NONE, ()), True)
        self.assertEqual(pairing_in_limits(SQUARE, ((1, 1), None, None, None)), OTHER)
        self.assertEqual(pairing_in_limits(wishes=SQUARE, limits=(None, (1, 7), None, None)), ONE)
        self.assertIsNone(pairing_in_limits(SQUARE, ((0, 0), (0, 0), None, None)))
        self.assertIn(pairing_in_limits(SQUARE, NONE), (ONE, OTHER))

    def test_least_above_most(self):
        for limits in (((1, 0), None, None, None), ((2, 1), None, None, None), ((9, 0), None, None, None), (None, None, (1, 0), None)):
            self.assertIsNone(pairing_in_limits(SQUARE, limits))
            for pairing in (ONE, OTHER, ()):
                self.assertIs(keeps_limits(SQUARE, limits, pairing), False)
        self.assertEqual(bounds_of_limits(SQUARE, ((2, 0), None, None, None)), (0, 0, None, -1))

    def test_ranks_that_nobody_has(self):
        """Least ranks behind the end of a list: nobody will do."""
        for limits in (((2, 2), None, None, None), ((2, 99), None, None, None), (None, (99, 99), None, None)):
            self.assertIsNone(pairing_in_limits(SQUARE, limits))

    def test_single_persons(self):
        for limit in ((0, 0), (0, 99), (1, 5), (5, 5)):
            self.assertIsNone(pairing_in_limits(CHAIN, (None, None, limit)))
            self.assertIs(keeps_limits(CHAIN, (None, None, limit), ((0, 1),)), False)
        self.assertEqual(pairing_in_limits(CHAIN, ((0, 0), (0, 3), None)), ((0, 1),))
        self.assertEqual(pairing_in_limits(wishes_of(()), (None,)), ())
        self.assertIsNone(pairing_in_limits(wishes_of(()), ((0, 0),)))

    def test_without_lasting_pairings(self):
        self.assertIsNone(pairing_in_limits(ODD, NONE))
        self.assertIsNone(pairing_in_limits(ODD, ((0, 2), None, None, None)))
        self.assertEqual(possible_ranks(ODD, 0), ())
        self.assertEqual(possible_ranks(ODD, 3), ())
        self.assertEqual(lasting_in_order(ODD, (0, 1, 2, 3), 5), ())

    def test_against_the_words(self):
        chance = random.Random(64)
        found = [0, 0]
        for wishes in many_wishes(64, 120, 7, 2) + [some for some in rich_wishes(64, 60) if len(some.names) < 10] + SHAPES:
            lasting, pairings = naive.lasting(wishes), naive.pairings(wishes)
            for share in (0.2, 0.4, 0.8):
                limits = some_limits(wishes, chance, share)
                self.assertEqual(bounds_of_limits(wishes, limits), bounds_by_words(wishes, limits))
                for pairing in chance.sample(pairings, min(30, len(pairings))):
                    self.assertIs(keeps_limits(wishes, limits, pairing), keeps_by_words(wishes, limits, pairing))
                keeping = [pairing for pairing in lasting if keeps_by_words(wishes, limits, pairing)]
                # A lasting pairing keeps limits exactly if it is within these bounds.
                self.assertEqual(keeping, [one for one in lasting if is_within(wishes, bounds_by_words(wishes, limits), one)])
                self.assertIn(pairing_in_limits(wishes, limits), keeping or [None])
                found[bool(keeping)] += 1
        self.assertGreater(min(found), 80)


class RanksTest(unittest.TestCase):
    def test_ordinary(self):
        self.assertEqual(possible_ranks(SQUARE, 0), (0, 1))
        self.assertEqual(possible_ranks(wishes=CHAIN, person=1), (0,))
        self.assertEqual(possible_ranks(CHAIN, 2), ())
        self.assertEqual(possible_ranks(wishes_of(()), 0), ())
        self.assertEqual(possible_ranks(crossed(4), 0), (0, 1, 2, 3))

    def test_against_all_lasting(self):
        most = 0
        for wishes in many_wishes(640, 150, 9, 2) + rich_wishes(640, 60) + SHAPES:
            lasting = naive.lasting(wishes) if len(wishes.names) < 9 else [
                naive.pairing_of_parting(naive.parting_of_lot(wishes, lot)) for lot in naive.complete_lots(wishes)
            ]
            if any(naive.opposite(turn) == turn for turn in naive.all_turns(wishes)):
                lasting = []
            for person in naive.persons(wishes):
                ranks = {mate_rank(wishes, pairing, person) for pairing in lasting} - {None}
                self.assertEqual(possible_ranks(wishes, person), tuple(sorted(ranks)))
                most = max(most, len(ranks))
        self.assertGreater(most, 3)


class OrderTest(unittest.TestCase):
    def test_ordinary(self):
        self.assertEqual(lasting_in_order(SQUARE, (1, 0, 2, 3), 2), (OTHER, ONE))
        self.assertEqual(lasting_in_order(wishes=SQUARE, order=(0, 1, 2, 3), many=1), (ONE,))
        self.assertEqual(lasting_in_order(SQUARE, (3, 2, 1, 0), 10**9), (OTHER, ONE))
        self.assertEqual(lasting_in_order(SQUARE, (2, 1, 0, 3), 3), (ONE, OTHER))
        for wishes in (SQUARE, ODD, CHAIN):
            self.assertEqual(lasting_in_order(wishes, tuple(naive.persons(wishes)), 0), ())
        self.assertEqual(lasting_in_order(CHAIN, (2, 1, 0), 5), (((0, 1),),))
        self.assertEqual(lasting_in_order(wishes_of(()), (0,), 1), ((),))
        self.assertEqual(lasting_in_order(wishes_of(*[()] * 60), tuple(range(60)), 7), ((),))

    def test_against_all_lasting(self):
        chance = random.Random(641)
        most = 0
        for wishes in many_wishes(641, 120, 8, 2) + [some for some in rich_wishes(641, 120) if len(some.names) < 11] + SHAPES:
            lasting = naive.lasting(wishes) if len(wishes.names) < 9 else naive_lasting_by_lots(wishes)
            for _ in range(3):
                order = tuple(chance.sample(list(naive.persons(wishes)), len(wishes.names)))
                told = in_order(wishes, lasting, order)
                for many in {0, 1, len(told) // 2, len(told), len(told) + 1, 1000}:
                    self.assertEqual(lasting_in_order(wishes, order, many), told[:many])
            most = max(most, len(lasting))
        self.assertGreater(most, 7)

    def test_many(self):
        order = tuple(range(40))
        all_of_them = lasting_in_order(squares(10), order, 5000)
        self.assertEqual(len(all_of_them), 1024)
        self.assertEqual(len(set(all_of_them)), 1024)
        rows = [ranks_of_pairing(squares(10), pairing) for pairing in all_of_them]
        self.assertEqual(rows, sorted(rows))
        self.assertEqual(lasting_in_order(squares(10), order, 1023), all_of_them[:-1])
        self.assertEqual(lasting_in_order(squares(10), order, 1024), all_of_them)

    def test_sixty_persons(self):
        chance = random.Random(642)
        for wishes in sixties() + [side_by_side(crossed(16), crossed(8), crossed(4), crossed(2)), ladder(30)]:
            order = tuple(chance.sample(range(60), 60))
            told = lasting_in_order(wishes, order, 50)
            rows = [[ranks_of_pairing(wishes, pairing)[person] or 0 for person in order] for pairing in told]
            self.assertEqual(rows, sorted(rows))
            self.assertEqual(len(set(told)), len(told))
            self.assertTrue(all(is_lasting(wishes, pairing) for pairing in told))
            for person in order[:4]:
                ranks = possible_ranks(wishes, person)
                self.assertEqual([pairing_in_limits(wishes, limits_of(person, rank)) is not None for rank in range(8)], [
                    rank in ranks for rank in range(8)
                ])


def limits_of(person, rank):
    return tuple((rank, rank) if one == person else None for one in range(60))


def naive_lasting_by_lots(wishes):
    if any(naive.opposite(turn) == turn for turn in naive.all_turns(wishes)):
        return []
    return [naive.pairing_of_parting(naive.parting_of_lot(wishes, lot)) for lot in naive.complete_lots(wishes)]


if __name__ == "__main__":
    unittest.main()
