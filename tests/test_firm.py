"""Points 39 and 40: firm holds, and how their rings are turned over."""

import unittest

from lastpairs.firm import firm_holds, firm_rings, held_by, is_firm, second_of, turned_over
from lastpairs.left import is_steady
from lastpairs.proposals import asked_out
from tests import naive
from tests.helpers import (
    crossed, many_wishes, raised, ring_wishes, round_rings, side_by_side, sixties, squares, two_sided_ring, wishes_of, wrong_forms, zoo,
)

SQUARE = squares(1)
ODD = wishes_of((1, 2), (2, 0), (0, 1))

# Wishes with sixty-seven firm holds.
SIXTY_SEVEN = wishes_of(
    (10, 17, 16), (12, 19, 2, 10), (19, 5, 1, 17, 7), (4, 12, 17, 5, 19), (17, 3), (18, 3, 14, 2, 17, 8, 9, 6),
    (5, 11, 13), (2, 14), (16, 14, 18, 17, 5, 15), (14, 5, 18, 19, 17, 11), (1, 0), (9, 17, 6, 18), (15, 18, 3, 1),
    (6, 17), (7, 5, 19, 8, 9), (8, 12), (0, 8), (13, 2, 3, 11, 9, 0, 8, 19, 5, 4), (11, 12, 8, 9, 5),
    (3, 9, 14, 1, 17, 2),
)


def are_holds_by_words(wishes, value):
    if type(value) is not tuple or len(value) != len(wishes.names):
        return False
    return all(held is None or (naive.is_number(held) and held in some) for held, some in zip(value, wishes.lists))


class FirmTest(unittest.TestCase):
    def test_ordinary(self):
        for holds in ((3, 0, 1, 2), (3, 2, 1, 0), (1, 0, 3, 2), (1, 2, 3, 0)):
            self.assertIs(is_firm(SQUARE, holds), True)
        for holds in ((None,) * 4, (1, 0, 1, 0), (3, 0, 3, 0), (3, 0, 1, None), [3, 0, 1, 2], (3, 0, 1), (3, 0, 1, 2, None), (3, False, True, 2),
                      (3, False, 1, 2), (3.0, 0, 1, 2), (2, 0, 1, 3), (0, 1, 2, 3), None, ()):
            self.assertIs(is_firm(wishes=SQUARE, value=holds), False, holds)

    def test_one_alone_and_nobody(self):
        self.assertIs(is_firm(wishes_of(()), (None,)), True)
        self.assertIs(is_firm(wishes_of((1,), (0,)), (None, None)), False)
        self.assertIs(is_firm(wishes_of((1,), (0,)), (1, None)), False)
        self.assertIs(is_firm(wishes_of((1,), (0,)), (1, 0)), True)
        self.assertEqual(firm_holds(wishes_of(())), ((None,),))
        self.assertEqual(firm_holds(wishes_of(*[()] * 60)), ((None,) * 60,))

    def test_any_values(self):
        for wishes in (SQUARE, wishes_of(())):
            for value in zoo():
                fine = wishes.names == ("aa",) and type(value) is tuple and len(value) == 1 and value[0] is None
                self.assertIs(is_firm(wishes, value), fine)
        for value in wrong_forms((3, 2, 1, 0)):
            fine = are_holds_by_words(SQUARE, value) and naive.is_firm(SQUARE, value)
            self.assertIs(is_firm(SQUARE, value), fine)

    def test_held_by(self):
        self.assertEqual(held_by((3, 0, 1, 2)), (1, 2, 3, 0))
        self.assertEqual(held_by(holds=(None, 0, None)), (1, None, None))
        self.assertEqual(held_by((None,)), (None,))

    def test_against_the_words(self):
        for wishes in many_wishes(39, 60, 5) + [SQUARE, round_rings(3, 2)]:
            found = naive.firm_holds(wishes)
            self.assertEqual(firm_holds(wishes), tuple(found))
            self.assertEqual(found[0 if len(found) == 1 else found.index(asked_out(wishes))], asked_out(wishes))
            for holds in naive.all_holds(wishes):
                self.assertIs(is_firm(wishes, holds), holds in found)
                self.assertIs(is_steady(wishes, holds), holds in found and self.is_steady_by_mirror(wishes, holds))

    def is_steady_by_mirror(self, wishes, holds):
        """Nobody would rather have whom it holds than who holds it."""
        return not any(naive.rather(wishes, person, held, naive.holder(holds, person)) for person, held in enumerate(holds))

    def test_in_italics(self):
        """The mirror is firm; the same persons hold, and are held; the greatest are those behind all asking."""
        for wishes in many_wishes(390, 100, 8, 2) + [squares(2), ring_wishes(8), crossed(4)]:
            found = firm_holds(wishes)
            greatest = asked_out(wishes)
            for holds in found:
                self.assertEqual(held_by(holds), naive.mirror(holds))
                self.assertIn(held_by(holds), found)
                self.assertEqual([held is None for held in holds], [held is None for held in greatest])
                self.assertEqual(sorted(held for held in holds if held is not None), sorted(held for held in greatest if held is not None))
                for person in naive.persons(wishes):
                    self.assertFalse(naive.rather(wishes, person, greatest[person], holds[person]))
                    self.assertFalse(naive.rather(wishes, person, held_by(holds)[person], held_by(greatest)[person]))

    def test_ascending_by_ranks(self):
        self.assertEqual(firm_holds(wishes=SQUARE), ((1, 2, 3, 0), (1, 0, 3, 2), (3, 2, 1, 0), (3, 0, 1, 2)))
        self.assertEqual(firm_holds(ODD), ((1, 2, 0), (2, 0, 1)))

    def test_two_hundred_and_more(self):
        many = side_by_side(round_rings(3, 3, 3), ring_wishes(6), ring_wishes(6))
        found = firm_holds(many)
        self.assertEqual(len(found), 200)
        keys = [[-1 if held is None else naive.rank(many, person, held) for person, held in enumerate(holds)] for holds in found]
        self.assertEqual(keys, sorted(keys))
        self.assertEqual(len({str(key) for key in keys}), 200)
        # Three times sixty-seven.
        self.assertEqual([len(firm_holds(wishes)) for wishes in (ring_wishes(4), SIXTY_SEVEN)], [3, 67])
        self.assertEqual(raised(firm_holds, side_by_side(ring_wishes(4), SIXTY_SEVEN)), ("Refused", "size"))
        self.assertEqual(raised(firm_holds, squares(4)), ("Refused", "size"))
        self.assertEqual(raised(firm_holds, squares(15)), ("Refused", "size"))


class TurnedOverTest(unittest.TestCase):
    def test_ordinary(self):
        self.assertEqual(firm_rings(SQUARE, (3, 0, 1, 2)), (((0, 1), (2, 3)), ((1, 2), (3, 0))))
        self.assertEqual(turned_over((3, 0, 1, 2), ((0, 1), (2, 3))), (3, 2, 1, 0))
        self.assertEqual(turned_over(holds=(3, 2, 1, 0), ring=((1, 2), (3, 0))), (1, 2, 3, 0))
        self.assertEqual(firm_rings(wishes=SQUARE, holds=(1, 2, 3, 0)), ())
        self.assertEqual(firm_rings(ODD, (2, 0, 1)), (((0, 1), (1, 2), (2, 0)),))
        self.assertEqual(turned_over((2, 0, 1), ((0, 1), (1, 2), (2, 0))), (1, 2, 0))
        self.assertEqual([second_of(SQUARE, (3, 0, 1, 2), person) for person in range(4)], [3, 0, 1, 2])
        self.assertEqual([second_of(wishes=SQUARE, holds=(1, 2, 3, 0), person=person) for person in range(4)], [None] * 4)

    def test_nobody(self):
        self.assertIsNone(second_of(wishes_of(()), (None,), 0))
        self.assertEqual(firm_rings(wishes_of(()), (None,)), ())
        # Nobody holds 2, though 1 is on its list.
        chain = wishes_of((1,), (0, 2), (1,))
        self.assertEqual(asked_out(chain), (1, 0, None))
        self.assertEqual([second_of(chain, (1, 0, None), person) for person in range(3)], [None, 2, None])
        self.assertEqual(firm_rings(chain, (1, 0, None)), ())

    def test_seconds_that_would_not_rather_are_left_out(self):
        # Behind 1, 0 has 2, who would not rather hold it, and then 3.
        wishes = wishes_of((1, 2, 3), (3, 0), (3, 0), (0, 2, 1))
        self.assertEqual(asked_out(wishes), (1, 0, 3, 2))
        self.assertEqual(second_of(wishes, (1, 0, 3, 2), 0), 3)

    def test_against_the_words(self):
        nobody = rings = 0
        tables = [(wishes, firm_holds(wishes)) for wishes in many_wishes(40, 150, 9, 2) + [squares(2), ring_wishes(8), crossed(4)]]
        for wishes, found in tables:
            for holds in found:
                self.assertEqual(firm_rings(wishes, holds), naive.firm_rings(wishes, holds))
                for person in naive.persons(wishes):
                    second = naive.second(wishes, holds, person)
                    self.assertEqual(second_of(wishes, holds, person), second)
                    nobody += second is not None and holds[second] is None
                for ring in naive.firm_rings(wishes, holds):
                    self.assertEqual(turned_over(holds, ring), naive.over(holds, ring))
                    self.assertIn(turned_over(holds, ring), found)
                    rings += 1
        self.assertGreater(nobody, 20)
        self.assertGreater(rings, 200)

    def test_all_are_reached(self):
        """From the greatest ones, by rings turned over; the mirror of these is the last."""
        for wishes in many_wishes(400, 60, 5) + [SQUARE]:
            met, waiting = set(), [naive.greatest(wishes)]
            while waiting:
                holds = waiting.pop()
                met.add(holds)
                waiting.extend(naive.over(holds, ring) for ring in naive.firm_rings(wishes, holds))
            self.assertEqual(met, set(naive.firm_holds(wishes)))
            ends = [holds for holds in met if not firm_rings(wishes, holds)]
            self.assertEqual(ends, [naive.mirror(naive.greatest(wishes))])

    def test_sixty_persons(self):
        for wishes in sixties():
            first = asked_out(wishes)
            self.assertTrue(is_firm(wishes, first))
            self.assertTrue(is_firm(wishes, held_by(first)))
            for ring in firm_rings(wishes, first):
                self.assertTrue(is_firm(wishes, turned_over(first, ring)))
        self.assertEqual(len(firm_rings(squares(15), asked_out(squares(15)))), 30)
        self.assertEqual(firm_rings(wishes_of(*two_sided_ring(60)), asked_out(wishes_of(*two_sided_ring(60))))[0][0], (0, 1))


if __name__ == "__main__":
    unittest.main()
