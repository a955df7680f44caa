"""Points 3, 15 and 16: pairings, and which of them last."""

import random
import unittest

from lastpairs.errors import InvalidPairing
from lastpairs.plain import (
    all_pairings, blocking_pairs, check_pairing, is_lasting, lasting_pairings, partner_of, single_in,
)
from tests import naive
from tests.helpers import many_wishes, raised, random_wishes, ring_wishes, squares, wishes_of, wrong_forms, zoo

FIVE = wishes_of((1, 3), (2, 0), (3, 1), (0, 2, 4), (3,))


class CheckTest(unittest.TestCase):
    def told(self, value, wishes=FIVE):
        error = raised(check_pairing, wishes, value)
        if error is not None:
            self.assertEqual(error[0], "InvalidPairing")
            return error[1]
        return None

    def test_pairings(self):
        for pairing in ((), ((0, 1),), ((0, 1), (2, 3)), ((0, 3), (1, 2)), ((1, 2), (3, 4))):
            self.assertIsNone(self.told(pairing))
        self.assertIsNone(check_pairing(wishes=FIVE, value=()))

    def test_no_tuple(self):
        for value in (None, [], [(0, 1)], "", {}, 0, InvalidPairing(0)):
            self.assertEqual(self.told(value), -1)

    def test_items(self):
        for item in ((1, 0), (0, 0), (0, 2), (0, 5), (-1, 0), (3, 5), (0,), (0, 1, 2), [0, 1], None, 0, "ab", (0, True),
                     (False, 1), (0.0, 1), ("0", "1"), (None, 1), ()):
            self.assertEqual(self.told((item,)), 0, item)
            self.assertEqual(self.told(((0, 1), item)), 1, item)
            self.assertEqual(self.told((item, item)), 0, item)

    def test_sequence_and_persons_twice(self):
        self.assertEqual(self.told(((1, 2), (0, 3))), 1)
        self.assertEqual(self.told(((0, 1), (0, 1))), 1)
        self.assertEqual(self.told(((0, 1), (1, 2))), 1)
        self.assertEqual(self.told(((0, 1), (0, 3))), 1)
        self.assertEqual(self.told(((0, 3), (2, 3))), 1)
        self.assertEqual(self.told(((0, 1), (2, 3), (3, 4))), 2)
        self.assertEqual(self.told(((0, 1), (3, 4), (2, 3), None)), 2)

    def test_any_values(self):
        for value in zoo():
            expected = -1
            if type(value) is tuple:
                expected = 0 if value else None
            self.assertEqual(self.told(value), expected)
        for value in wrong_forms(((0, 1), (2, 3))):
            self.assertEqual(self.told(value) is None, naive.is_pairing(FIVE, value))
            self.assertEqual(self.told(value), self.expected(value))

    def expected(self, value):
        if type(value) is not tuple:
            return -1
        for at in range(len(value)):
            if not naive.is_pairing(FIVE, value[: at + 1]):
                return at
        return None

    def test_all_prefixes(self):
        chance = random.Random(2)
        for wishes in many_wishes(2, 60, 7, 2):
            pairs = naive.pairs(wishes) or [(0, 1)]
            for _ in range(20):
                value = tuple(chance.choice(pairs) for _ in range(chance.randint(0, 4)))
                self.assertEqual(self.told(value, wishes) is None, naive.is_pairing(wishes, value))


class PairingTest(unittest.TestCase):
    def test_mates(self):
        self.assertEqual([partner_of(((0, 3), (1, 2)), person) for person in range(5)], [3, 2, 1, 0, None])
        self.assertIsNone(partner_of(pairing=(), person=0))
        self.assertEqual(single_in(FIVE, ((1, 2),)), (0, 3, 4))
        self.assertEqual(single_in(FIVE, ()), (0, 1, 2, 3, 4))
        self.assertEqual(single_in(wishes=wishes_of((1,), (0,)), pairing=((0, 1),)), ())

    def test_all_pairings(self):
        self.assertEqual(all_pairings(wishes_of(())), ((),))
        self.assertEqual(all_pairings(wishes_of((1,), (0,))), ((), ((0, 1),)))
        for wishes in many_wishes(4, 40, 7):
            found = all_pairings(wishes)
            self.assertEqual(list(found), naive.pairings(wishes))
            self.assertEqual(list(found), sorted(found))

    def test_how_many_are_too_many(self):
        self.assertEqual(len(all_pairings(ring_wishes(10))), 9496)
        self.assertEqual(raised(all_pairings, ring_wishes(11)), ("Refused", "size"))
        self.assertEqual(raised(all_pairings, ring_wishes(60)), ("Refused", "size"))
        self.assertEqual(all_pairings(wishes_of(*[()] * 60)), ((),))
        pairs = [(at ^ 1,) for at in range(28)]
        self.assertEqual(len(all_pairings(wishes_of(*pairs))), 16384)
        self.assertEqual(raised(all_pairings, wishes_of(*pairs, (29,), (28,))), ("Refused", "size"))

    def test_just_twenty_thousand(self):
        # 20,000 is 2 to the fifth times 5 to the fourth: a star of k has k and one pairings.
        lists = []
        for leaves in (1, 1, 1, 1, 1, 4, 4, 4, 4):
            first = len(lists)
            lists.append(range(first + 1, first + leaves + 1))
            lists.extend([first] for _ in range(leaves))
        self.assertEqual(len(all_pairings(wishes_of(*lists))), 20000)
        # A prime factor of 20,001 has more leaves than there are persons; 20,007 is 3 * 3 * 3 * 3 * 13 * 19.
        lists = []
        for leaves in (2, 2, 2, 2, 12, 18):
            first = len(lists)
            lists.append(range(first + 1, first + leaves + 1))
            lists.extend([first] for _ in range(leaves))
        self.assertEqual(raised(all_pairings, wishes_of(*lists)), ("Refused", "size"))

    def test_one_more_than_twenty_thousand(self):
        # 20,001 is 59 * 339 and 339 is 3 * 113: the parts below have as many pairings.
        lists = part_with(59) + part_with(3) + part_with(113)
        wishes = wishes_of(*shifted(lists))
        self.assertLessEqual(len(wishes.names), 60)
        self.assertEqual(count_pairings(wishes), 20001)
        self.assertEqual(raised(all_pairings, wishes), ("Refused", "size"))


def part_with(many):
    """Parts, each a table of lists, that have together as many pairings as asked for."""
    chance = random.Random(many)
    while True:
        wishes = random_wishes(chance, chance.randint(2, 9), chance.choice((0.3, 0.5, 0.7)))
        if count_pairings(wishes) == many:
            return [wishes.lists]


def shifted(parts):
    lists = []
    for part in parts:
        first = len(lists)
        lists.extend([first + other for other in some] for some in part)
    return lists


def count_pairings(wishes):
    def count(free):
        if not free:
            return 1
        rest = free[1:]
        return count(rest) + sum(count([x for x in rest if x != other]) for other in wishes.lists[free[0]] if other in rest)

    return count(list(naive.persons(wishes)))


class LastingTest(unittest.TestCase):
    def test_ordinary(self):
        self.assertEqual(blocking_pairs(FIVE, ()), ((0, 1), (0, 3), (1, 2), (2, 3), (3, 4)))
        self.assertEqual(blocking_pairs(FIVE, ((0, 1), (2, 3))), ())
        self.assertIs(is_lasting(FIVE, ((0, 1), (2, 3))), True)
        self.assertIs(is_lasting(FIVE, ((0, 1), (3, 4))), False)
        self.assertEqual(lasting_pairings(wishes_of((1, 2), (2, 0), (0, 1))), ())
        self.assertEqual(lasting_pairings(wishes_of(())), ((),))

    def test_against_the_words(self):
        chance = random.Random(6)
        for wishes in many_wishes(6, 120, 7):
            for pairing in chance.sample(naive.pairings(wishes), min(6, len(naive.pairings(wishes)))):
                self.assertEqual(blocking_pairs(wishes, pairing), naive.blocks(wishes, pairing))
                self.assertEqual(is_lasting(wishes, pairing), not naive.blocks(wishes, pairing))
            found = lasting_pairings(wishes)
            self.assertEqual(found, naive.lasting(wishes))
            self.assertLessEqual(len({single_in(wishes, pairing) for pairing in found}), 1)

    def test_sizes(self):
        self.assertEqual(lasting_pairings(ring_wishes(12)), (tuple((at, at + 6) for at in range(6)),))
        self.assertEqual(len(lasting_pairings(squares(3))), 8)
        self.assertEqual(raised(lasting_pairings, ring_wishes(13)), ("Refused", "size"))
        self.assertEqual(raised(lasting_pairings, wishes_of(*[()] * 13)), ("Refused", "size"))
        self.assertEqual(lasting_pairings(wishes_of(*[()] * 12)), ((),))
        chance = random.Random(12)
        for _ in range(10):
            wishes = random_wishes(chance, 12)
            for pairing in lasting_pairings(wishes):
                self.assertEqual(naive.blocks(wishes, pairing), ())

    def test_sixty_persons(self):
        wishes = ring_wishes(60)
        self.assertTrue(is_lasting(wishes, tuple((at, at + 30) for at in range(30))))
        self.assertEqual(len(blocking_pairs(wishes, ())), 1770)


if __name__ == "__main__":
    unittest.main()
