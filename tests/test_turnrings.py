"""Points 27 and 28: rings of steady holds, turned out."""

import unittest

from lastpairs.left import are_within, is_steady
from lastpairs.proposals import asked_out
from lastpairs.turnrings import (
    giver_behind, good_rings, is_odd_turn, is_turn_ring, turn_from, turn_rings, turned_out,
)
from tests import naive
from tests.helpers import is_plain, many_wishes, raised, ring_wishes, squares, wishes_of, wrong_forms, zoo

FOUR = wishes_of((1, 3, 2), (2, 0, 3), (3, 1, 0), (0, 2, 1))
HOLDS = (3, 0, 1, 2)
ODD = wishes_of((1, 2), (2, 0), (0, 1))


def behind_by_words(wishes, holds, person):
    some = naive.left_list(wishes, holds, person)
    return holds[some[1]] if len(some) > 1 else None


def rings_by_words(wishes, holds):
    found = set()
    for person in naive.persons(wishes):
        giver = person
        for _ in naive.persons(wishes):
            giver = None if giver is None else behind_by_words(wishes, holds, giver)
        if giver is not None:
            ring = [giver]
            while behind_by_words(wishes, holds, ring[-1]) != giver:
                ring.append(behind_by_words(wishes, holds, ring[-1]))
            at = ring.index(min(ring))
            found.add(tuple((x, naive.left_list(wishes, holds, x)[0]) for x in ring[at:] + ring[:at]))
    return tuple(sorted(found))


def is_odd_by_words(wishes, holds, ring):
    takers = [taker for _, taker in ring]
    return all(giver in takers and len(naive.left_list(wishes, holds, giver)) == 2 for giver, _ in ring)


class TurnRingsTest(unittest.TestCase):
    def test_ordinary(self):
        self.assertEqual([giver_behind(FOUR, HOLDS, person) for person in range(4)], [2, 3, 0, 1])
        self.assertEqual(turn_from(FOUR, HOLDS, 2), ((0, 1), (2, 3)))
        self.assertEqual(turn_from(wishes=FOUR, holds=HOLDS, person=3), ((1, 2), (3, 0)))
        self.assertEqual(turn_rings(FOUR, HOLDS), (((0, 1), (2, 3)), ((1, 2), (3, 0))))
        self.assertEqual(turned_out(FOUR, HOLDS, ((1, 2), (3, 0))), (1, 0, 3, 2))
        self.assertIs(is_odd_turn(FOUR, HOLDS, ((0, 1), (2, 3))), False)
        self.assertEqual(good_rings(wishes=FOUR, holds=HOLDS), turn_rings(FOUR, HOLDS))

    def test_rings_stand_by_their_least_givers(self):
        # Person 0 leads to the ring whose least giver is greater.
        wishes = wishes_of(
            (1, 2, 5, 3, 4, 8, 7, 6), (7, 4, 3, 8, 6, 5, 0, 2), (1, 5, 6, 8, 7, 3, 4, 0), (8, 5, 2, 4, 1, 6, 0, 7),
            (0, 2, 1, 7, 6, 8, 3, 5), (3, 0, 7, 2, 1, 4, 6, 8), (8, 0, 3, 4, 5, 7, 2, 1), (0, 2, 6, 5, 1, 4, 3, 8),
            (2, 0, 7, 4, 3, 1, 6, 5),
        )
        holds = (4, 0, 8, 5, 6, 2, 7, 1, 3)
        self.assertEqual(asked_out(wishes), holds)
        self.assertEqual(turn_rings(wishes, holds), (((1, 7), (6, 4)), ((2, 5), (3, 8))))
        self.assertEqual(good_rings(wishes, holds), turn_rings(wishes, holds))
        self.assertEqual(turn_from(wishes, holds, 0), ((2, 5), (3, 8)))

    def test_lists_too_short(self):
        pairs = (1, 0, 3, 2)
        for person in range(4):
            self.assertEqual(raised(giver_behind, FOUR, pairs, person), ("Refused", "list"))
            self.assertEqual(raised(turn_from, FOUR, pairs, person), ("Refused", "list"))
        self.assertEqual(turn_rings(FOUR, pairs), ())
        self.assertEqual(good_rings(FOUR, pairs), ())
        self.assertEqual(raised(giver_behind, wishes_of(()), (None,), 0), ("Refused", "list"))
        self.assertEqual(raised(turn_from, wishes_of(()), (None,), 0), ("Refused", "list"))

    def test_odd_rings(self):
        ring = ((0, 1), (1, 2), (2, 0))
        # The giver behind 0 is whom 2 holds: 1.
        self.assertEqual(asked_out(ODD), (2, 0, 1))
        self.assertEqual(turn_rings(ODD, (2, 0, 1)), (ring,))
        self.assertIs(is_odd_turn(ODD, (2, 0, 1), ring), True)
        self.assertEqual(good_rings(ODD, (2, 0, 1)), ())
        self.assertEqual(raised(turned_out, ODD, (2, 0, 1), ring), ("Refused", "odd"))

    def test_is_turn_ring(self):
        for ring in turn_rings(FOUR, HOLDS):
            self.assertIs(is_turn_ring(FOUR, HOLDS, ring), True)
        for value in (((2, 3), (0, 1)), ((0, 1),), (), [(0, 1), (2, 3)], ([0, 1], [2, 3]), ((0, True), (2, 3)), ((False, 1), (2, 3)),
                      ((0, 1), (2, 3), (0, 1)), ((0, 1.0), (2, 3)), ((0, 3), (2, 1)), None, ((0, 1, 2), (2, 3))):
            self.assertIs(is_turn_ring(FOUR, HOLDS, value), False, value)
        for value in zoo():
            self.assertIs(is_turn_ring(FOUR, HOLDS, value), False)
        for value in wrong_forms(((0, 1), (2, 3))):
            fine = is_plain(value) and value in (((0, 1), (2, 3)), ((1, 2), (3, 0)))
            self.assertIs(is_turn_ring(FOUR, HOLDS, value), fine)

    def test_against_the_words(self):
        odd = 0
        for wishes in many_wishes(27, 60, 5, 3) + many_wishes(28, 150, 12, 6):
            tables = naive.steady_tables(wishes) if len(wishes.names) < 6 else [asked_out(wishes)]
            for holds in tables:
                rings = rings_by_words(wishes, holds)
                self.assertEqual(turn_rings(wishes, holds), rings)
                for person in naive.persons(wishes):
                    self.check_person(wishes, holds, person, rings)
                good = tuple(ring for ring in rings if not is_odd_by_words(wishes, holds, ring))
                self.assertEqual(good_rings(wishes, holds), good)
                for ring in rings:
                    self.assertIs(is_turn_ring(wishes, holds, ring), True)
                    self.assertEqual(is_odd_turn(wishes, holds, ring), ring not in good)
                    self.check_turned(wishes, holds, ring, ring in good)
                    odd += ring not in good
        self.assertGreater(odd, 5)

    def check_person(self, wishes, holds, person, rings):
        giver = behind_by_words(wishes, holds, person)
        if giver is None:
            self.assertEqual(raised(giver_behind, wishes, holds, person), ("Refused", "list"))
            self.assertEqual(raised(turn_from, wishes, holds, person), ("Refused", "list"))
            return
        self.assertEqual(giver_behind(wishes, holds, person), giver)
        self.assertNotEqual(giver, person)
        ring = turn_from(wishes, holds, person)
        self.assertIn(ring, rings)
        met = [person]
        for _ in naive.persons(wishes):
            met.append(behind_by_words(wishes, holds, met[-1]))
        self.assertEqual(met[-1] in [giver for giver, _ in ring], True)

    def check_turned(self, wishes, holds, ring, good):
        if not good:
            self.assertEqual(raised(turned_out, wishes, holds, ring), ("Refused", "odd"))
            self.assertEqual(len(ring) % 2, 1)
            return
        after = turned_out(wishes, holds, ring)
        expected = list(holds)
        for (giver, _), (_, taker) in zip(ring, ring[1:] + ring[:1]):
            expected[taker] = giver
            self.assertEqual(naive.left_list(wishes, holds, giver)[1], taker)
            self.assertEqual(naive.left_list(wishes, after, giver)[0], taker)
        self.assertEqual(after, tuple(expected))
        self.assertTrue(is_steady(wishes, after))
        self.assertTrue(are_within(wishes, after, holds))
        self.assertEqual([held is None for held in holds], [held is None for held in after])

    def test_sixty_persons(self):
        wishes = ring_wishes(60)
        rings = turn_rings(wishes, asked_out(wishes))
        self.assertEqual([len(ring) for ring in rings], [60])
        wishes = squares(15)
        self.assertEqual(len(good_rings(wishes, asked_out(wishes))), 30)


if __name__ == "__main__":
    unittest.main()
