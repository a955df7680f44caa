"""Points 8 and 9: less wishes, other names, pieces."""

import random
import unittest
from itertools import permutations

from lastpairs.remade import (
    both_ways, piece_of, pieces_in, renamed_wishes, with_list, with_persons, without_pairs, without_persons,
)
from lastpairs.plain import lasting_pairings
from lastpairs.plainpartings import lasting_partings
from lastpairs.wishes import Wishes, pairs_in
from tests import naive
from tests.helpers import NAMES, many_wishes, raised, ring_wishes, wishes_of, wrong_forms, zoo

FOUR = Wishes(("fir", "lark", "moss", "wren"), ((1, 2, 3), (2, 0), (0, 1), (0,)))


class LessTest(unittest.TestCase):
    def test_persons(self):
        self.assertEqual(with_persons(FOUR, (0, 2, 3)), Wishes(("fir", "moss", "wren"), ((1, 2), (0,), (0,))))
        self.assertEqual(without_persons(FOUR, (1,)), Wishes(("fir", "moss", "wren"), ((1, 2), (0,), (0,))))
        self.assertEqual(with_persons(FOUR, (0, 1, 2, 3)), FOUR)
        self.assertEqual(without_persons(FOUR, ()), FOUR)
        self.assertEqual(with_persons(wishes=FOUR, persons=(3,)), Wishes(("wren",), ((),)))
        self.assertEqual(without_persons(wishes=FOUR, persons=(0, 1, 2)), Wishes(("wren",), ((),)))

    def test_nobody_left(self):
        self.assertEqual(raised(with_persons, FOUR, ()), ("Refused", "persons"))
        self.assertEqual(raised(without_persons, FOUR, (0, 1, 2, 3)), ("Refused", "persons"))
        self.assertEqual(raised(without_persons, wishes_of(()), (0,)), ("Refused", "persons"))

    def test_persons_against_the_words(self):
        chance = random.Random(3)
        for wishes in many_wishes(3, 60, 8):
            persons = tuple(sorted(chance.sample(naive.persons(wishes), chance.randint(1, len(wishes.names)))))
            less = with_persons(wishes, persons)
            self.assertEqual(less.names, tuple(wishes.names[person] for person in persons))
            for number, person in enumerate(persons):
                kept = [other for other in wishes.lists[person] if other in persons]
                self.assertEqual([persons[other] for other in less.lists[number]], kept)
            others = tuple(person for person in naive.persons(wishes) if person not in persons)
            if others:
                self.assertEqual(without_persons(wishes, others), less)

    def test_pairs(self):
        self.assertEqual(without_pairs(FOUR, ()), FOUR)
        self.assertEqual(without_pairs(FOUR, ((0, 1), (1, 2))).lists, ((2, 3), (), (0,), (0,)))
        self.assertEqual(without_pairs(FOUR, pairs_in(FOUR)).lists, ((), (), (), ()))
        self.assertEqual(without_pairs(FOUR, ((0, 3),)).names, FOUR.names)

    def test_both_ways(self):
        self.assertEqual(both_ways(("a", "b", "c"), ((1, 2), (2, 0), (1,))), Wishes(("a", "b", "c"), ((1,), (2, 0), (1,))))
        self.assertEqual(both_ways(names=("a", "b"), lists=((1,), ())), wishes_like(("a", "b"), ((), ())))
        self.assertEqual(both_ways(FOUR.names, FOUR.lists), FOUR)
        self.assertEqual(both_ways(("a",), ((),)), Wishes(("a",), ((),)))
        full = ring_wishes(60)
        self.assertEqual(both_ways(full.names, full.lists), full)


def wishes_like(names, lists):
    return Wishes(names, lists)


class OtherListTest(unittest.TestCase):
    def test_ordinary(self):
        self.assertEqual(with_list(FOUR, 0, (3, 1, 2)).lists, ((3, 1, 2), (2, 0), (0, 1), (0,)))
        self.assertEqual(with_list(FOUR, 3, (0,)), FOUR)
        self.assertEqual(with_list(wishes_of(()), 0, ()), wishes_of(()))
        for some in permutations((1, 2, 3)):
            self.assertEqual(with_list(wishes=FOUR, person=0, some=some).lists[0], some)

    def test_refused(self):
        for some in ((1, 2), (1, 2, 3, 3), (1, 2, 2), (1, 2, 0), (True, 2, 3), [1, 2, 3], (1, 2, 4), (), None, (1.0, 2, 3)):
            self.assertEqual(raised(with_list, FOUR, 0, some), ("Refused", "list"), some)
        self.assertEqual(raised(with_list, FOUR, 3, (False,)), ("Refused", "list"))
        for value in zoo():
            self.assertEqual(raised(with_list, FOUR, 1, value), ("Refused", "list"))
        for value in wrong_forms((0, 2)):
            fine = type(value) is tuple and all(map(naive.is_number, value)) and sorted(value) == [0, 2]
            self.assertEqual(raised(with_list, FOUR, 1, value), None if fine else ("Refused", "list"))


class RenamedTest(unittest.TestCase):
    def test_ordinary(self):
        wishes, numbers = renamed_wishes(FOUR, ("d", "a", "c", "b"))
        self.assertEqual(numbers, (3, 0, 2, 1))
        self.assertEqual(wishes, Wishes(("a", "b", "c", "d"), ((2, 3), (3,), (3, 0), (0, 2, 1))))
        self.assertEqual(renamed_wishes(wishes=FOUR, names=FOUR.names), (FOUR, (0, 1, 2, 3)))

    def test_refused(self):
        for names in (("a", "b", "c"), ("a", "b", "c", "d", "e"), ("a", "b", "c", "a"), ["a", "b", "c", "d"],
                      ("a", "b", "c", "abcdefg"), ("a", "b", "c", ""), ("a", "b", "c", "D"), ("a", "b", "c", None), "abcd"):
            self.assertEqual(raised(renamed_wishes, FOUR, names), ("Refused", "names"), names)
        for value in zoo():
            self.assertEqual(raised(renamed_wishes, FOUR, value), ("Refused", "names"))
        for value in wrong_forms(("d", "a", "b")):
            fine = type(value) is tuple and all(map(naive.is_name, value)) and len(set(value)) == len(value) == 3
            self.assertEqual(raised(renamed_wishes, wishes_of((1,), (0,), ()), value), None if fine else ("Refused", "names"))

    def test_the_same_pairings_last(self):
        chance = random.Random(5)
        for wishes in many_wishes(5, 40, 8):
            names = list(NAMES[: len(wishes.names)])
            chance.shuffle(names)
            other, numbers = renamed_wishes(wishes, tuple(names))
            self.assertEqual([other.names[number] for number in numbers], names)
            moved = []
            for pairing in lasting_pairings(wishes):
                moved.append(tuple(sorted(tuple(sorted(numbers[person] for person in pair)) for pair in pairing)))
            self.assertEqual(tuple(sorted(moved)), lasting_pairings(other))


class PiecesTest(unittest.TestCase):
    def test_ordinary(self):
        wishes = wishes_of((3,), (4,), (), (0, 5), (1,), (3,))
        self.assertEqual(pieces_in(wishes), ((0, 3, 5), (1, 4), (2,)))
        self.assertEqual(piece_of(wishes, 5), (0, 3, 5))
        self.assertEqual(piece_of(wishes=wishes, person=2), (2,))
        self.assertEqual(pieces_in(ring_wishes(60)), (tuple(range(60)),))
        self.assertEqual(pieces_in(wishes_of(*[()] * 60)), tuple((person,) for person in range(60)))
        self.assertEqual(pieces_in(wishes_of(())), ((0,),))

    def test_a_long_way(self):
        chain = wishes_of(*[[other for other in (at - 1, at + 1) if 0 <= other < 60] for at in range(60)])
        self.assertEqual(piece_of(chain, 0), tuple(range(60)))
        self.assertEqual(piece_of(chain, 30), tuple(range(60)))

    def test_parts_are_put_together_in_all_ways(self):
        for wishes in many_wishes(11, 60, 8, 2):
            parts = [with_persons(wishes, piece) for piece in pieces_in(wishes)]
            self.assertEqual(sorted(person for piece in pieces_in(wishes) for person in piece), list(naive.persons(wishes)))
            many = 1
            for part in parts:
                many *= len(lasting_pairings(part))
            self.assertEqual(many, len(lasting_pairings(wishes)))
            many = 1
            for part in parts:
                many *= len(lasting_partings(part))
            self.assertEqual(many, len(lasting_partings(wishes)))


if __name__ == "__main__":
    unittest.main()
