"""Points 59 and 60: what lasts between two lasting pairings, and the ways from one to the other."""

import random
import unittest

from lastpairs.betweens import all_between, is_between, is_way_between, steps_between, way_between
from lastpairs.middles import middle_pairing
from lastpairs.sidepairs import side_pairing
from lastpairs.turns import turns_of
from lastpairs.wishes import Wishes
from tests import naive
from tests.helpers import (
    crossed, is_plain, many_wishes, raised, ring_wishes, side_by_side, squares, two_sided_ring, wishes_of, wrong_forms, zoo,
)

SIX = Wishes(("a", "b", "c", "x", "y", "z"), ((3, 4, 5), (4, 5, 3), (5, 3, 4), (1, 2, 0), (2, 0, 1), (0, 1, 2)))
TOLD = (((0, 3), (1, 4), (2, 5)), ((0, 4), (1, 5), (2, 3)), ((0, 5), (1, 3), (2, 4)))
ONE, OTHER = ((0, 1), (2, 3)), ((0, 3), (1, 2))
SHAPES = [SIX, squares(1), squares(2), crossed(4), ring_wishes(6), ring_wishes(8), wishes_of(*two_sided_ring(8))]


def some_wishes(seed, count=60):
    """Small wishes with two lasting pairings or more, and others."""
    found = [(wishes, naive.lasting(wishes)) for wishes in many_wishes(seed, 4 * count, 8, 4)]
    several = [entry for entry in found if len(entry[1]) > 1]
    return [entry for entry in found if len(entry[1]) == 1][:10] + several[:count] + [(wishes, naive.lasting(wishes)) for wishes in SHAPES[:-3]]


def lies_between(wishes, one, other, pairing):
    for person in naive.persons(wishes):
        first, rank, last = [naive.rank(wishes, person, naive.mate(told, person)) for told in (one, pairing, other)]
        if not (first <= rank <= last or last <= rank <= first):
            return False
    return True


def steps_by_words(wishes, pairings, one):
    """The least number of steps from one lasting pairing to each."""
    between = {(a, b): [c for c in pairings if lies_between(wishes, a, b, c)] for a in pairings for b in pairings}
    far, waiting = {one: 0}, [one]
    while waiting:
        now = waiting.pop(0)
        for after in pairings:
            if after not in far and len(between[now, after]) == 2:
                far[after] = far[now] + 1
                waiting.append(after)
    return far


class BetweenTest(unittest.TestCase):
    def test_ordinary(self):
        self.assertEqual(len(all_between(SIX, TOLD[0], TOLD[1])), 2)
        self.assertEqual(all_between(SIX, TOLD[2], TOLD[0]), TOLD)
        self.assertEqual(all_between(wishes=squares(1), one=ONE, other=OTHER), (ONE, OTHER))
        self.assertIs(is_between(SIX, TOLD[0], TOLD[2], TOLD[1]), True)
        self.assertIs(is_between(SIX, TOLD[0], TOLD[1], TOLD[2]), False)
        self.assertIs(is_between(wishes=SIX, one=TOLD[2], other=TOLD[1], value=TOLD[1]), True)
        # All ranks are between those of the two, but it is not lasting.
        self.assertIs(is_between(squares(1), ONE, OTHER, ((0, 1),)), False)

    def test_a_pairing_and_itself(self):
        for wishes, pairings in some_wishes(59, 10):
            for one in pairings:
                self.assertEqual(all_between(wishes, one, one), (one,))
                self.assertEqual(steps_between(wishes, one, one), 0)
                self.assertEqual(way_between(wishes, one, one), (one,))
                self.assertIs(is_way_between(wishes, one, one, (one,)), True)
                self.assertIs(is_way_between(wishes, one, one, (one, one)), False)
                self.assertIs(is_way_between(wishes, one, one, ()), False)

    def test_nobody(self):
        for many in (1, 60):
            wishes = wishes_of(*[()] * many)
            self.assertIs(is_between(wishes, (), (), ()), True)
            self.assertEqual(way_between(wishes, (), ()), ((),))
            self.assertEqual(steps_between(wishes, (), ()), 0)
        self.assertEqual(all_between(wishes_of(()), (), ()), ((),))

    def test_against_the_words(self):
        for wishes, pairings in some_wishes(590):
            for one in pairings:
                for other in pairings:
                    between = tuple(pairing for pairing in pairings if lies_between(wishes, one, other, pairing))
                    self.assertEqual(all_between(wishes, one, other), between)
                    for pairing in pairings:
                        self.assertIs(is_between(wishes, one, other, pairing), pairing in between)
                        # It is between two others exactly if it is the middle of the three.
                        self.assertEqual(middle_pairing(wishes, (one, other, pairing)) == pairing, pairing in between)
            for pairing in naive.pairings(wishes)[:60]:
                if pairing not in pairings and pairings:
                    self.assertIs(is_between(wishes, pairings[0], pairings[-1], pairing), False)

    def test_twelve_and_thirteen(self):
        twelve, one = squares(3), tuple((at, at + 1) for at in range(0, 12, 2))
        other = tuple(sorted((first + at, first + 3 - at) for first in (0, 4, 8) for at in (0, 1)))
        self.assertEqual(all_between(twelve, one, other), tuple(naive.lasting(twelve)))
        self.assertEqual(len(all_between(twelve, one, other)), 8)
        thirteen = side_by_side(twelve, wishes_of(()))
        self.assertEqual(raised(all_between, thirteen, one, one), ("Refused", "size"))
        self.assertEqual(raised(all_between, wishes_of(*[()] * 13), (), ()), ("Refused", "size"))
        self.assertEqual(raised(all_between, wishes_of(*[()] * 60), (), ()), ("Refused", "size"))
        self.assertEqual(steps_between(thirteen, one, other), 3)
        self.assertIs(is_between(thirteen, one, other, one), True)

    def test_any_values(self):
        for value in zoo():
            self.assertIs(is_between(SIX, TOLD[0], TOLD[2], value), False)
            self.assertIs(is_way_between(SIX, TOLD[0], TOLD[2], value), False)
            self.assertIs(is_way_between(SIX, TOLD[0], TOLD[2], (TOLD[0], value, TOLD[2])), False)
            self.assertIs(is_way_between(SIX, TOLD[0], TOLD[1], (value, TOLD[1])), False)
            self.assertIs(is_way_between(SIX, TOLD[0], TOLD[1], (TOLD[0], value)), False)
        for value in wrong_forms(TOLD[1]):
            self.assertIs(is_between(SIX, TOLD[0], TOLD[1], value), is_plain(value) and value in TOLD[:2])
        for value in wrong_forms(TOLD):
            self.assertIs(is_way_between(SIX, TOLD[0], TOLD[2], value), is_plain(value) and value == TOLD)


class WayTest(unittest.TestCase):
    def test_ordinary(self):
        self.assertEqual(steps_between(SIX, TOLD[0], TOLD[2]), 2)
        self.assertEqual(steps_between(wishes=SIX, one=TOLD[1], other=TOLD[0]), 1)
        self.assertEqual(way_between(SIX, TOLD[2], TOLD[0]), TOLD[::-1])
        self.assertEqual(way_between(wishes=squares(1), one=ONE, other=OTHER), (ONE, OTHER))
        self.assertIs(is_way_between(SIX, TOLD[0], TOLD[2], TOLD), True)
        self.assertIs(is_way_between(wishes=SIX, one=TOLD[2], other=TOLD[0], value=TOLD[::-1]), True)
        for value in ((TOLD[0], TOLD[2]), TOLD[::-1], TOLD[:2], TOLD[1:], TOLD + TOLD[2:], TOLD[:1] + TOLD, list(TOLD), (), None, TOLD[0],
                      (TOLD[0], TOLD[0], TOLD[2]), (TOLD[0], TOLD[2], TOLD[2]), (TOLD[0], (), TOLD[2]), (TOLD[0], list(TOLD[1]), TOLD[2])):
            self.assertIs(is_way_between(SIX, TOLD[0], TOLD[2], value), False, value)

    def test_more_steps_than_are_needed(self):
        eight, pairings = squares(2), naive.lasting(squares(2))
        a, b, c, d = pairings
        self.assertEqual(steps_between(eight, a, d), 2)
        self.assertIs(is_way_between(eight, a, d, (a, b, d)), True)
        self.assertIs(is_way_between(eight, a, d, (a, c, d)), True)
        self.assertIs(is_way_between(eight, a, b, (a, c, d, b)), False)
        self.assertIs(is_way_between(eight, a, d, (a, b, a, b, d)), False)
        self.assertIn(way_between(eight, a, d), ((a, b, d), (a, c, d)))

    def test_steps_that_are_too_long(self):
        """As many steps as are needed, but one of them of three turns, or of none."""
        twelve = squares(3)
        first, near, two, last = [
            tuple((4 * at + i, 4 * at + j) for at, pairs in enumerate(told) for i, j in pairs)
            for told in ((ONE, ONE, ONE), (ONE, ONE, OTHER), (ONE, OTHER, OTHER), (OTHER, OTHER, OTHER))
        ]
        self.assertEqual([steps_between(twelve, first, pairing) for pairing in (near, two, last)], [1, 2, 3])
        self.assertIs(is_way_between(twelve, first, two, (first, near, two)), True)
        for way in ((first, last, two), (two, last, first), (first, first, two), (first, two, two), (near, last, two)):
            self.assertIs(is_way_between(twelve, way[0], way[-1], way), False)
        self.assertIs(is_way_between(twelve, first, last, (first, last, two, last)), False)
        self.assertIs(is_way_between(twelve, last, first, (last, two, near, first)), True)

    def test_against_the_words(self):
        far_apart = 0
        for wishes, pairings in some_wishes(60):
            far = {one: steps_by_words(wishes, pairings, one) for one in pairings}
            for one in pairings:
                for other in pairings:
                    steps = far[one][other]
                    self.assertEqual(steps_between(wishes, one, other), steps)
                    way = way_between(wishes, one, other)
                    self.assertEqual((way[0], way[-1], len(way)), (one, other, steps + 1))
                    self.assertTrue(all(far[way[at]][way[at + 1]] == 1 for at in range(steps)))
                    self.assertIs(is_way_between(wishes, one, other, way), True)
                    self.check_italics(wishes, far, one, other)
                    far_apart += steps > 1
        self.assertGreater(far_apart, 20)

    def check_italics(self, wishes, far, one, other):
        """As many steps as there are turns apart; who is between is on some way; the steps by a third are no fewer."""
        lots = [turns_of(wishes, tuple(naive.mate(pairing, person) for person in naive.persons(wishes))) for pairing in (one, other)]
        self.assertEqual(len([turn for turn in lots[0] if turn not in lots[1]]), far[one][other])
        for third in far:
            by_third = far[one][third] + far[third][other]
            self.assertGreaterEqual(by_third, far[one][other])
            self.assertEqual(by_third == far[one][other], lies_between(wishes, one, other, third))

    def test_any_ways(self):
        chance = random.Random(600)
        right = 0
        for wishes, pairings in some_wishes(601, 25):
            far = {one: steps_by_words(wishes, pairings, one) for one in pairings}
            for _ in range(60 if len(pairings) > 1 else 0):
                way = tuple(chance.choices(pairings, k=chance.randrange(1, 4)))
                one, other = chance.choice((way[0], pairings[0])), chance.choice((way[-1], pairings[-1]))
                single = all(far[way[at - 1]][way[at]] == 1 for at in range(1, len(way)))
                fine = single and (way[0], way[-1]) == (one, other) and len(way) == far[one][other] + 1
                self.assertIs(is_way_between(wishes, one, other, way), fine)
                right += fine and len(way) > 1
        self.assertGreater(right, 50)

    def test_sixty_persons(self):
        for wishes, many in ((squares(15), 15), (wishes_of(*two_sided_ring(60)), 29), (side_by_side(crossed(16), squares(7)), 127)):
            sides = (0, 1) * 30 if many < 30 else (0,) * 16 + (1,) * 16 + (0, 1) * 14
            one, other = side_pairing(wishes, sides, 0), side_pairing(wishes, sides, 1)
            way = way_between(wishes, one, other)
            self.assertEqual(len(way), many + 1)
            self.assertEqual(steps_between(wishes, other, one), many)
            self.assertIs(is_way_between(wishes, one, other, way), True)
            self.assertIs(is_way_between(wishes, other, one, way[::-1]), True)
            self.assertIs(is_way_between(wishes, one, other, way[:3] + way[2:]), False)
            self.assertIs(is_between(wishes, one, other, way[many // 2]), True)
            self.assertEqual(naive.blocks(wishes, way[many // 2]), ())


if __name__ == "__main__":
    unittest.main()
