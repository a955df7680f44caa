"""Point 37: halves of partings."""

import random
import unittest
from itertools import product

from lastpairs.halves import are_halves, are_lasting_halves, halves_of, parting_by_halves
from lastpairs.partings import parting_of
from tests import naive
from tests.helpers import many_wishes, ring_wishes, round_rings, sixties, squares, wishes_of, wrong_forms, zoo

FOUR = wishes_of((1, 2, 3), (2, 0, 3), (0, 1, 3), (0, 1, 2))
TRIANGLE = ((0, 1, 1), (0, 2, 1), (1, 2, 1))


def are_halves_by_words(wishes, value):
    if type(value) is not tuple:
        return False
    for item in value:
        if type(item) is not tuple or len(item) != 3 or not all(naive.is_number(part) for part in item):
            return False
        if item[:2] not in naive.pairs(wishes) or item[2] not in (1, 2):
            return False
    if len({item[:2] for item in value}) < len(value) or list(value) != sorted(value):
        return False
    return all(many_of(value, person) in (0, 2) for person in naive.persons(wishes))


def many_of(halves, person, others=None):
    """How many halves a person has, with some others or with all."""
    return sum(many for i, j, many in halves if person in (i, j) and (others is None or i + j - person in others))


def outweighs(wishes, halves, person, other):
    some = [one for one in wishes.lists[person] if not naive.rather(wishes, person, other, one)]
    return many_of(halves, person, some) == 2


def do_last_by_words(wishes, halves):
    return all(outweighs(wishes, halves, i, j) or outweighs(wishes, halves, j, i) for i, j in naive.pairs(wishes))


def all_halves(wishes):
    pairs = naive.pairs(wishes)
    for many in product((0, 1, 2), repeat=len(pairs)):
        value = tuple((i, j, some) for (i, j), some in zip(pairs, many) if some)
        if all(many_of(value, person) in (0, 2) for person in naive.persons(wishes)):
            yield value


class HalvesTest(unittest.TestCase):
    def test_ordinary(self):
        self.assertEqual(halves_of((1, 2, 0, 3)), TRIANGLE)
        self.assertEqual(halves_of((1, 0, 3, 2)), ((0, 1, 2), (2, 3, 2)))
        self.assertEqual(halves_of((3, 0, 1, 2)), ((0, 1, 1), (0, 3, 1), (1, 2, 1), (2, 3, 1)))
        self.assertEqual(halves_of(parting=(1, 0, 3, 4, 2)), ((0, 1, 2), (2, 3, 1), (2, 4, 1), (3, 4, 1)))
        self.assertEqual(halves_of((0, 1, 2)), ())
        self.assertIs(are_lasting_halves(FOUR, TRIANGLE), True)
        self.assertIs(are_lasting_halves(FOUR, ((0, 1, 2), (2, 3, 2))), False)
        self.assertEqual(parting_by_halves(FOUR, TRIANGLE), (1, 2, 0, 3))
        self.assertEqual(parting_by_halves(wishes=wishes_of((), ()), halves=()), (0, 1))

    def test_are_halves(self):
        for value in ((), TRIANGLE, ((0, 1, 2),), ((0, 1, 2), (2, 3, 2)), ((0, 1, 1), (0, 3, 1), (1, 2, 1), (2, 3, 1))):
            self.assertIs(are_halves(FOUR, value), True, value)
        for value in (((0, 1, 1),), ((0, 1, 2), (1, 2, 2)), TRIANGLE[::-1], list(TRIANGLE), ((1, 0, 2),), ((0, 0, 2),), ((0, 1, 0),), ((0, 1, 3),),
                      ((0, 1, 4),), ((0, 1, 1), (0, 1, 1)), ((0, 1, 1), (0, 1, 2)), ((0, 1, 1), (1, 2, 1)), ((0, 4, 2),), ((-1, 1, 2),), ((0, 1),),
                      ((False, 1, 2),), ((0, True, 2),), ((0, 1, True), (0, 2, True), (1, 2, True)), ((0, 1, 2.0),), ([0, 1, 2],), (0, 1, 2), None):
            self.assertIs(are_halves(wishes=FOUR, value=value), False, value)
            self.assertIs(are_lasting_halves(wishes=FOUR, value=value), False, value)
        self.assertIs(are_halves(squares(1), ((0, 2, 2),)), False)
        self.assertIs(are_halves(wishes_of(()), ()), True)
        self.assertIs(are_lasting_halves(wishes_of(()), ()), True)
        self.assertIs(are_lasting_halves(wishes_of((1,), (0,)), ()), False)

    def test_against_the_words(self):
        count = 0
        for wishes in many_wishes(37, 60, 4) + [squares(1), round_rings(3), round_rings(5), round_rings(3, 2), round_rings(6), FOUR]:
            lasting = {halves_of(parting) for parting in naive.lasting_partings(wishes)}
            for value in all_halves(wishes):
                self.assertIs(are_halves(wishes, value), True)
                last = do_last_by_words(wishes, value)
                self.assertIs(are_lasting_halves(wishes, value), last)
                # Those that last are those of the partings that last.
                self.assertEqual(last, value in lasting)
                if last:
                    parting = parting_by_halves(wishes, value)
                    self.assertTrue(naive.is_parting(wishes, parting))
                    self.assertTrue(naive.does_parting_last(wishes, parting))
                    self.assertEqual(halves_of(parting), value)
                    self.check_best(wishes, value, parting)
                    count += 1
        self.assertGreater(count, 60)

    def check_best(self, wishes, halves, parting):
        for person in naive.persons(wishes):
            some = [other for other in wishes.lists[person] if many_of(halves, person, (other,))]
            self.assertEqual(parting[person], some[0] if some else person)

    def test_of_partings(self):
        for wishes in many_wishes(370, 20, 5):
            for parting in naive.partings(wishes):
                value = tuple((i, j, 2 if (i, j) in naive.rings(parting) else 1) for i, j in naive.nearby(parting))
                self.assertEqual(halves_of(parting), value)
                self.assertIs(are_halves(wishes, value), True)

    def test_any_values(self):
        for value in zoo():
            empty = type(value) is tuple and not value
            self.assertIs(are_halves(FOUR, value), empty)
            self.assertIs(are_lasting_halves(FOUR, value), False)
            self.assertIs(are_halves(wishes_of(()), value), empty)
        for value in wrong_forms(TRIANGLE):
            fine = are_halves_by_words(FOUR, value)
            self.assertIs(are_halves(FOUR, value), fine)
            self.assertIs(are_lasting_halves(FOUR, value), fine and do_last_by_words(FOUR, value))
        chance = random.Random(37)
        for wishes in many_wishes(371, 60, 4, 2):
            for _ in range(20):
                value = tuple((i, j, chance.choice((0, 1, 2, 3))) for i, j in chance.choices(naive.pairs(wishes) or [(0, 1)], k=chance.randrange(4)))
                self.assertIs(are_halves(wishes, value), are_halves_by_words(wishes, value))

    def test_sixty_persons(self):
        for wishes in sixties():
            parting = parting_of(wishes)
            self.assertIs(are_lasting_halves(wishes, halves_of(parting)), True)
            self.assertEqual(parting_by_halves(wishes, halves_of(parting)), parting)
        self.assertIs(are_lasting_halves(ring_wishes(60), ()), False)


if __name__ == "__main__":
    unittest.main()
