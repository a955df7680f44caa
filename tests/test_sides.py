"""Point 10: sides and odd rings of wishes."""

import unittest
from itertools import permutations, product

from lastpairs.plain import lasting_pairings
from lastpairs.remade import pieces_in
from lastpairs.sides import are_sides, is_odd_ring, is_two_sided, sides_or_ring
from tests import naive
from tests.helpers import many_wishes, ring_wishes, squares, wishes_of, wrong_forms, zoo

PATH = wishes_of((1, 3), (2, 0), (1,), (0,))
# Two triangles that share nobody, a pair, and somebody alone.
ODD = wishes_of((1, 2), (2, 0), (0, 1), (4, 5), (5, 3), (3, 4), (7,), (6,), ())


def are_sides_by_words(wishes, value):
    if type(value) is not tuple or len(value) != len(wishes.names):
        return False
    if not all(naive.is_number(side) and side < 2 for side in value):
        return False
    return all(value[i] != value[j] for i, j in naive.pairs(wishes))


def is_odd_ring_by_words(wishes, value):
    if type(value) is not tuple or not all(naive.is_number(person) for person in value):
        return False
    if len(value) < 3 or len(value) % 2 == 0 or len(set(value)) < len(value):
        return False
    if any(person >= len(wishes.names) for person in value):
        return False
    return all(other in wishes.lists[person] for person, other in zip(value, value[1:] + value[:1]))


class SidesTest(unittest.TestCase):
    def test_ordinary(self):
        self.assertEqual(sides_or_ring(PATH), ("sides", (0, 1, 0, 1)))
        self.assertEqual(sides_or_ring(wishes_of(())), ("sides", (0,)))
        self.assertEqual(sides_or_ring(wishes_of((), (), ())), ("sides", (0, 0, 0)))
        self.assertEqual(sides_or_ring(wishes_of((3,), (2,), (1,), (0,))), ("sides", (0, 0, 1, 1)))
        self.assertIs(is_two_sided(PATH), True)
        self.assertIs(is_two_sided(ODD), False)

    def test_rings(self):
        for wishes in (ODD, ring_wishes(3), ring_wishes(60), ring_wishes(7)):
            word, ring = sides_or_ring(wishes)
            self.assertEqual(word, "ring")
            self.assertTrue(is_odd_ring_by_words(wishes, ring))
        for many in (3, 5, 59):
            wishes = wishes_of(*[[(at - 1) % many, (at + 1) % many] for at in range(many)])
            self.assertEqual(len(sides_or_ring(wishes)[1]), many)
        wishes = wishes_of(*[[(at - 1) % 60, (at + 1) % 60] for at in range(60)])
        self.assertEqual(sides_or_ring(wishes), ("sides", (0, 1) * 30))

    def test_a_ring_behind_a_way(self):
        wishes = wishes_of((1,), (0, 2), (1, 3), (2, 4, 6), (3, 5), (4, 6), (5, 3, 7), (6,))
        self.assertTrue(is_two_sided(wishes))
        wishes = wishes_of((1,), (0, 2), (1, 3), (2, 4, 5), (3, 5), (4, 3, 6), (5,))
        self.assertEqual(set(sides_or_ring(wishes)[1]), {3, 4, 5})

    def test_are_sides(self):
        for value in ((0, 1, 0, 1), (1, 0, 1, 0)):
            self.assertIs(are_sides(PATH, value), True)
        for value in ((0, 1, 1, 1), (False, True, False, True), (0, 1, 0, True), [0, 1, 0, 1], (0, 1, 0), (0, 1, 0, 1, 0), (0, 2, 0, 2),
                      (0, -1, 0, 1), (0.0, 1, 0, 1), "0101", None):
            self.assertIs(are_sides(PATH, value), False)
        # The first person of a piece need not have 0.
        self.assertIs(are_sides(wishes_of((), ()), (1, 0)), True)

    def test_is_odd_ring(self):
        for ring in ((0, 1, 2), (2, 1, 0), (1, 2, 0), (5, 3, 4)):
            self.assertIs(is_odd_ring(ODD, ring), True)
        for value in ((), (0,), (0, 1), (6, 7), (0, 1, 3), (0, 1, 2, 0, 1), (0, 1, 2, 3, 4), [0, 1, 2], (0, True, 2), (0, 1, 9),
                      (0, 1, -7), (0.0, 1, 2), (0, 1, "2"), None, "abc", (8,), (0, 0, 0)):
            self.assertIs(is_odd_ring(ODD, value), False, value)
        even = wishes_of((1, 3), (0, 2), (1, 3), (2, 0))
        self.assertIs(is_odd_ring(even, (0, 1, 2, 3)), False)
        self.assertIs(is_odd_ring(ring_wishes(5), (0, 2, 4, 1, 3)), True)

    def test_any_values(self):
        for value in zoo():
            self.assertIs(are_sides(PATH, value), False)
            self.assertIs(is_odd_ring(ODD, value), False)
        for value in wrong_forms((0, 1, 0, 1)):
            self.assertIs(are_sides(PATH, value), are_sides_by_words(PATH, value))
        for value in wrong_forms((0, 1, 2)):
            self.assertIs(is_odd_ring(ODD, value), is_odd_ring_by_words(ODD, value))

    def test_against_the_words(self):
        for wishes in many_wishes(10, 80, 6) + [squares(15)]:
            word, told = sides_or_ring(wishes)
            self.assertEqual(is_two_sided(wishes), word == "sides")
            if word == "sides":
                self.assertTrue(are_sides_by_words(wishes, told))
                self.assertEqual([told[piece[0]] for piece in pieces_in(wishes)], [0] * len(pieces_in(wishes)))
                if len(wishes.names) <= 12:
                    self.assertTrue(lasting_pairings(wishes))
            else:
                self.assertTrue(is_odd_ring_by_words(wishes, told))
            if len(wishes.names) > 6:
                continue
            some = [value for value in product((0, 1), repeat=len(wishes.names)) if are_sides_by_words(wishes, value)]
            self.assertEqual(bool(some), word == "sides")
            for value in some:
                self.assertTrue(are_sides(wishes, value))
            for many in (3, 4, 5):
                for value in permutations(naive.persons(wishes), many):
                    self.assertIs(is_odd_ring(wishes, value), is_odd_ring_by_words(wishes, value))


if __name__ == "__main__":
    unittest.main()
