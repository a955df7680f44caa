"""Point 65: the best lasting pairings, and papers of them."""

import random
import unittest

from lastpairs.best import (
    FavouredPaper, LeastPaper, favoured_pairing, favoured_paper, greatest_rank, is_favoured_paper, is_least_paper, least_greatest, least_paper,
    least_sum, rank_sum,
)
from lastpairs.bounds import cut_wishes
from lastpairs.judge import is_parting
from lastpairs.plain import is_lasting
from lastpairs.plainpartings import lasting_partings
from tests import naive
from tests.helpers import (
    Hostile, Posing, crossed, ladder, many_wishes, raised, rich_wishes, ring_wishes, round_rings, side_by_side, sixties, squares,
    two_sided_ring, wishes_of, wrong_forms, zoo,
)

SQUARE = squares(1)
ODD = wishes_of((1, 2, 3), (2, 0, 3), (0, 1, 3), (0, 1, 2))
CHAIN = wishes_of((1,), (0, 2), (1,))
# Each of two sides would have the others in opposite sequences; in the middle all have a rank of 1.
THREE = wishes_of((3, 4, 5), (4, 5, 3), (5, 3, 4), (1, 2, 0), (2, 0, 1), (0, 1, 2))
MIDDLE = ((0, 4), (1, 5), (2, 3))
ONE, OTHER = ((0, 1), (2, 3)), ((0, 3), (1, 2))
ORDER = (1, 0, 2, 3)
SHAPES = [SQUARE, ODD, CHAIN, THREE, squares(2), round_rings(3, 4), ring_wishes(6), crossed(2), crossed(4), wishes_of(()), wishes_of((1,), (0,)),
          wishes_of(*[()] * 7), wishes_of(*two_sided_ring(8))]


def ranks(wishes, pairing):
    some = [(person, naive.mate(pairing, person)) for person in naive.persons(wishes)]
    return [None if mate is None else naive.rank(wishes, person, mate) for person, mate in some]


def greatest(wishes, pairing):
    return max([rank for rank in ranks(wishes, pairing) if rank is not None], default=-1)


def total(wishes, pairing):
    return sum(rank for rank in ranks(wishes, pairing) if rank is not None)


def favoured(wishes, lasting, order):
    return min(lasting, key=lambda pairing: [-1 if ranks(wishes, pairing)[one] is None else ranks(wishes, pairing)[one] for one in order])


def do_bar(wishes, bounds):
    """All values that bar bounds, for wishes of few persons."""
    cut = cut_wishes(wishes, bounds)
    return [parting for parting in lasting_partings(cut)
            if naive.odd_rings(parting) or any(bounds[person] is not None for person in naive.singles(parting))]


def least_bounds(wishes, pairing):
    return tuple(None if rank is None else greatest(wishes, pairing) - 1 for rank in ranks(wishes, pairing))


def favoured_bounds(wishes, order, pairing):
    rows, told = [], ranks(wishes, pairing)
    for at, person in enumerate(order):
        if told[person] is not None and told[person] > 0:
            rows.append(tuple(
                told[one] - 1 if one == person else told[one] if one in order[:at] else None for one in naive.persons(wishes)
            ))
    return rows


class BestTest(unittest.TestCase):
    def test_ranks(self):
        self.assertEqual(greatest_rank(SQUARE, ONE), 1)
        self.assertEqual(rank_sum(wishes=SQUARE, pairing=ONE), 2)
        self.assertEqual(greatest_rank(wishes=CHAIN, pairing=((0, 1),)), 0)
        self.assertEqual(rank_sum(CHAIN, ((1, 2),)), 1)
        for wishes in (SQUARE, CHAIN, wishes_of(())):
            self.assertEqual((greatest_rank(wishes, ()), rank_sum(wishes, ())), (-1, 0))
        for wishes in many_wishes(65, 40, 6):
            for pairing in naive.pairings(wishes)[:50]:
                self.assertEqual(greatest_rank(wishes, pairing), greatest(wishes, pairing))
                self.assertEqual(rank_sum(wishes, pairing), total(wishes, pairing))

    def test_ordinary(self):
        self.assertEqual(least_greatest(THREE), MIDDLE)
        self.assertIn(least_greatest(wishes=SQUARE), (ONE, OTHER))
        self.assertEqual(favoured_pairing(SQUARE, ORDER), OTHER)
        self.assertEqual(favoured_pairing(wishes=SQUARE, order=(0, 1, 2, 3)), ONE)
        self.assertIn(least_sum(wishes=SQUARE), (ONE, OTHER))
        self.assertEqual(favoured_pairing(THREE, (3, 0, 1, 2, 4, 5)), ((0, 5), (1, 3), (2, 4)))

    def test_greatest_ranks_of_none_and_nought(self):
        for wishes, pairing in ((wishes_of(()), ()), (wishes_of(*[()] * 60), ()), (wishes_of((1,), (0,)), ((0, 1),)), (CHAIN, ((0, 1),))):
            order = tuple(naive.persons(wishes))
            self.assertEqual(least_greatest(wishes), pairing)
            self.assertEqual(least_paper(wishes), LeastPaper(pairing, None))
            self.assertIs(is_least_paper(wishes, LeastPaper(pairing, None)), True)
            self.assertIs(is_least_paper(wishes, LeastPaper(pairing, tuple(order))), False)
            self.assertEqual(favoured_paper(wishes, order), FavouredPaper(pairing, ()))
            self.assertIs(is_favoured_paper(wishes, order, FavouredPaper(pairing, ())), True)
            self.assertIs(is_favoured_paper(wishes, order, FavouredPaper(pairing, (order,))), False)
            self.assertIs(is_favoured_paper(wishes, order, FavouredPaper(pairing, None)), False)

    def test_without_lasting_pairings(self):
        self.assertIsNone(least_greatest(ODD))
        self.assertIsNone(least_paper(ODD))
        self.assertIsNone(least_sum(ODD))
        self.assertIsNone(favoured_pairing(ODD, (3, 2, 1, 0)))
        self.assertIsNone(favoured_paper(ODD, (3, 2, 1, 0)))
        for pairing in naive.pairings(ODD):
            self.assertIs(is_least_paper(ODD, LeastPaper(pairing, (1, 2, 0, 3))), False)
            self.assertIs(is_favoured_paper(ODD, ORDER, FavouredPaper(pairing, ())), False)

    def test_sums_of_twelve_and_thirteen_persons(self):
        six = side_by_side(THREE, THREE)
        self.assertEqual(total(six, least_sum(six)), total(six, naive_least(six)))
        self.assertEqual(rank_sum(squares(3), least_sum(squares(3))), 6)
        for wishes in (side_by_side(THREE, THREE, wishes_of(())), wishes_of(*[()] * 13), round_rings(13), ring_wishes(60)):
            self.assertEqual(raised(least_sum, wishes), ("Refused", "size"))
        self.assertEqual(least_sum(wishes_of(*[()] * 12)), ())

    def test_against_all_lasting(self):
        chance = random.Random(650)
        several = 0
        for wishes in many_wishes(650, 120, 8) + [some for some in rich_wishes(650, 60) if len(some.names) < 10] + SHAPES:
            lasting = naive.lasting(wishes)
            order = tuple(chance.sample(list(naive.persons(wishes)), len(wishes.names)))
            if not lasting:
                self.assertEqual([least_greatest(wishes), least_paper(wishes), least_sum(wishes)], [None] * 3)
                self.assertEqual([favoured_pairing(wishes, order), favoured_paper(wishes, order)], [None] * 2)
                continue
            least = min(greatest(wishes, pairing) for pairing in lasting)
            self.assertIn(least_greatest(wishes), [pairing for pairing in lasting if greatest(wishes, pairing) == least])
            self.assertIn(least_paper(wishes).pairing, [pairing for pairing in lasting if greatest(wishes, pairing) == least])
            self.assertEqual(favoured_pairing(wishes, order), favoured(wishes, lasting, order))
            self.assertEqual(favoured_paper(wishes, order).pairing, favoured(wishes, lasting, order))
            least = min(total(wishes, pairing) for pairing in lasting)
            self.assertIn(least_sum(wishes), [pairing for pairing in lasting if total(wishes, pairing) == least])
            several += len(lasting) > 1
        self.assertGreater(several, 20)


def naive_lasting(wishes):
    return [naive.pairing_of_parting(naive.parting_of_lot(wishes, lot)) for lot in naive.complete_lots(wishes)]


def naive_least(wishes):
    return min(naive_lasting(wishes), key=lambda pairing: total(wishes, pairing))


class PapersTest(unittest.TestCase):
    def test_attributes(self):
        self.assertEqual(vars(LeastPaper(pairing=1, parting=[2])), {"pairing": 1, "parting": [2]})
        self.assertEqual(vars(FavouredPaper(pairing=1, partings=None)), {"pairing": 1, "partings": None})
        hostile = Hostile()
        self.assertIs(LeastPaper(hostile, 0).pairing, hostile)
        self.assertIs(FavouredPaper(0, hostile).partings, hostile)

    def test_equality(self):
        for kind, unlike in ((LeastPaper, FavouredPaper), (FavouredPaper, LeastPaper)):
            self.assertTrue(kind(ONE, (1, 2)) == kind(((0, 1), (2, 3)), (1, 2)))
            self.assertFalse(kind(ONE, (1, 2)) != kind(ONE, (1, 2)))
            self.assertFalse(kind(ONE, (1, 2)) == kind(OTHER, (1, 2)))
            self.assertFalse(kind(ONE, (1, 2)) == kind(ONE, (1,)))
            self.assertFalse(kind(ONE, (1, 2)) == kind(ONE, [1, 2]))
            self.assertFalse(kind(ONE, (1, 2)) == unlike(ONE, (1, 2)))
            self.assertFalse(kind(ONE, None) == (ONE, None))
            self.assertIs(kind(None, ()).__eq__(Posing()), False)
            hostile, nan = Hostile(), float("nan")
            # As the tuples of the attributes are: of one and the same object, too.
            self.assertIs(kind(hostile, nan).__eq__(kind(hostile, nan)), True)
            self.assertIs(kind(1, 0).__eq__(kind(True, 0.0)), True)
            for value in zoo():
                self.assertIs(kind(ONE, ()).__eq__(value), False)

    def test_least_papers(self):
        # With bounds of nought nobody has more than one: 0 would have 1, and 1 would not.
        bars = do_bar(SQUARE, (0, 0, 0, 0))
        self.assertEqual(bars, [(0, 1, 2, 3)])
        for pairing in (ONE, OTHER):
            self.assertIs(is_least_paper(SQUARE, LeastPaper(pairing, (0, 1, 2, 3))), True)
        self.assertIs(is_least_paper(wishes=SQUARE, value=LeastPaper(ONE, None)), False)
        for parting in ((1, 0, 3, 2), (1, 2, 3, 0), (0, 1, 2), [0, 1, 2, 3], (False, 1, 2, 3), (), ONE):
            self.assertIs(is_least_paper(SQUARE, LeastPaper(ONE, parting)), False, parting)
        for pairing in ((), ((0, 1),), list(ONE), None, ((0, True), (2, 3)), (1, 0, 3, 2)):
            self.assertIs(is_least_paper(SQUARE, LeastPaper(pairing, (0, 1, 2, 3))), False, pairing)
        # A lasting pairing with a greater greatest rank, and what would bar less.
        self.assertIs(is_least_paper(THREE, LeastPaper(((0, 3), (1, 4), (2, 5)), least_paper(THREE).parting)), False)
        self.assertIs(is_least_paper(THREE, LeastPaper(MIDDLE, (3, 4, 5, 1, 2, 0))), False)

    def test_single_persons_in_least_papers(self):
        """They have no bound: as a single one that has one it would bar all."""
        both = side_by_side(SQUARE, CHAIN)
        paper = least_paper(both)
        self.assertEqual((greatest_rank(both, paper.pairing), paper.parting), (1, (0, 1, 2, 3, 5, 4, 6)))
        self.assertIs(is_least_paper(both, paper), True)
        three = side_by_side(THREE, CHAIN)
        self.assertEqual(least_greatest(three), MIDDLE + ((6, 7),))
        worse = ((0, 3), (1, 4), (2, 5), (6, 7))
        self.assertIn(worse, naive_lasting(three))
        # With bounds of 1 the middle pairing is left, and 8 is single: this would bar, if 8 had a bound.
        parting = (4, 5, 3, 2, 0, 1, 7, 6, 8)
        self.assertTrue(is_parting(cut_wishes(three, (1,) * 8 + (None,)), parting))
        self.assertIs(is_least_paper(three, LeastPaper(worse, parting)), False)

    def test_favoured_papers(self):
        paper = favoured_paper(SQUARE, ORDER)
        self.assertEqual(paper.pairing, OTHER)
        self.assertEqual(len(paper.partings), 2)
        self.assertIs(is_favoured_paper(SQUARE, ORDER, paper), True)
        self.assertIs(is_favoured_paper(wishes=SQUARE, order=(0, 1, 2, 3), value=paper), False)
        for partings in (paper.partings[:1], paper.partings + paper.partings[:1], list(paper.partings), (), None, paper.partings[::-1][:1] + (None,)):
            self.assertIs(is_favoured_paper(SQUARE, ORDER, FavouredPaper(OTHER, partings)), False)
        self.assertIs(is_favoured_paper(SQUARE, ORDER, FavouredPaper(ONE, paper.partings)), False)
        # Single persons have no bound, and no parting stands for them.
        both = side_by_side(SQUARE, CHAIN)
        paper = favoured_paper(both, (6, 1, 0, 2, 3, 4, 5))
        self.assertEqual((paper.pairing, len(paper.partings)), (OTHER + ((4, 5),), 2))
        self.assertIs(is_favoured_paper(both, (6, 1, 0, 2, 3, 4, 5), paper), True)

    def test_against_the_words(self):
        chance = random.Random(651)
        right = wrong = 0
        for wishes in many_wishes(651, 100, 6, 2) + [SQUARE, THREE, CHAIN, squares(1), ring_wishes(6), crossed(2)] * 2:
            order = tuple(chance.sample(list(naive.persons(wishes)), len(wishes.names)))
            lasting = naive.lasting(wishes)
            if lasting:
                self.assertIs(is_least_paper(wishes, least_paper(wishes)), True)
                self.assertIs(is_favoured_paper(wishes, order, favoured_paper(wishes, order)), True)
            for pairing in lasting:
                bars = do_bar(wishes, least_bounds(wishes, pairing))
                for parting in [None] + bars + naive.partings(wishes)[:20]:
                    fine = parting is None if greatest(wishes, pairing) <= 0 else parting in bars
                    self.assertIs(is_least_paper(wishes, LeastPaper(pairing, parting)), fine)
                    right, wrong = right + fine, wrong + (not fine)
                self.assertEqual(bool(bars) or greatest(wishes, pairing) <= 0, all(
                    greatest(wishes, pairing) <= greatest(wishes, other) for other in lasting
                ))
                rows = [do_bar(wishes, bounds) for bounds in favoured_bounds(wishes, order, pairing)]
                self.assertEqual(all(rows), pairing == favoured(wishes, lasting, order))
                some = tuple(chance.choice(row or [tuple(naive.persons(wishes))]) for row in rows)
                self.assertIs(is_favoured_paper(wishes, order, FavouredPaper(pairing, some)), all(rows))
                for at in range(len(some)):
                    for instead in naive.partings(wishes)[:6]:
                        value = FavouredPaper(pairing, some[:at] + (instead,) + some[at + 1:])
                        self.assertIs(is_favoured_paper(wishes, order, value), all(rows) and instead in rows[at])
        self.assertGreater(min(right, wrong), 100)

    def test_any_values(self):
        least, best = least_paper(SQUARE), favoured_paper(SQUARE, ORDER)
        for value in zoo():
            self.assertIs(is_least_paper(SQUARE, value), False)
            self.assertIs(is_favoured_paper(SQUARE, ORDER, value), False)
            for paper in (LeastPaper(value, least.parting), LeastPaper(least.pairing, value), FavouredPaper(least.pairing, least.parting)):
                self.assertIs(is_least_paper(SQUARE, paper), False)
                self.assertIs(is_favoured_paper(SQUARE, ORDER, paper), False)
            for paper in (FavouredPaper(value, best.partings), FavouredPaper(OTHER, value), FavouredPaper(OTHER, (value, value))):
                self.assertIs(is_favoured_paper(SQUARE, ORDER, paper), False)
            self.assertIs(is_least_paper(CHAIN, LeastPaper(((0, 1),), value)), value is None)
        for value in wrong_forms(least.parting):
            fine = naive.is_parting(SQUARE, value) and value == (0, 1, 2, 3)
            self.assertIs(is_least_paper(SQUARE, LeastPaper(ONE, value)), fine)
        for value in wrong_forms(best.partings):
            self.assertIs(is_favoured_paper(SQUARE, ORDER, FavouredPaper(OTHER, value)), self.is_right(value))

    def is_right(self, value):
        if type(value) is not tuple or len(value) != 2 or not all(naive.is_parting(SQUARE, parting) for parting in value):
            return False
        rows = favoured_bounds(SQUARE, ORDER, OTHER)
        return all(parting in do_bar(SQUARE, bounds) for parting, bounds in zip(value, rows))

    def test_sixty_persons(self):
        chance = random.Random(652)
        for wishes in sixties() + [side_by_side(crossed(16), crossed(8), crossed(4), crossed(2)), ladder(30)]:
            order = tuple(chance.sample(range(60), 60))
            least, best = least_paper(wishes), favoured_paper(wishes, order)
            self.assertEqual(least is None, best is None)
            if least is not None:
                self.assertIs(is_least_paper(wishes, least), True)
                self.assertIs(is_favoured_paper(wishes, order, best), True)
                self.assertEqual(greatest_rank(wishes, least_greatest(wishes)), greatest_rank(wishes, least.pairing))
                self.assertEqual(favoured_pairing(wishes, order), best.pairing)
                self.assertTrue(is_lasting(wishes, best.pairing))
                self.assertEqual(len(best.partings), sum(bool(rank) for rank in ranks(wishes, best.pairing)))


if __name__ == "__main__":
    unittest.main()
