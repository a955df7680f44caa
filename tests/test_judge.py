"""Point 33: the judge of partings."""

import unittest

from lastpairs.judge import is_parting, parting_fault
from lastpairs.partings import parting_of
from lastpairs.plainpartings import lasting_partings
from tests import naive
from tests.helpers import many_wishes, ring_wishes, sixties, squares, wishes_of, wrong_forms, zoo

ODD = wishes_of((1, 2, 3), (2, 0, 3), (0, 1, 3), (0, 1, 2))


def fault_by_words(wishes, value):
    if type(value) is not tuple or len(value) != len(wishes.names):
        return ("form", -1)
    for at, item in enumerate(value):
        if not naive.is_number(item) or not (item == at or item in wishes.lists[at]) or item in value[:at]:
            return ("form", at)
    before = [naive.before(value, person) for person in naive.persons(wishes)]
    for person in naive.persons(wishes):
        if before[person] is not None and naive.rather(wishes, person, before[person], value[person]):
            return ("turned", person)
    for i, j in naive.pairs(wishes):
        if naive.rather(wishes, i, j, before[i]) and naive.rather(wishes, j, i, before[j]):
            return ("pair", (i, j))
    return None


class JudgeTest(unittest.TestCase):
    def test_ordinary(self):
        self.assertIsNone(parting_fault(ODD, (1, 2, 0, 3)))
        self.assertIs(is_parting(ODD, (1, 2, 0, 3)), True)
        self.assertEqual(parting_fault(ODD, (2, 0, 1, 3)), ("turned", 0))
        self.assertEqual(parting_fault(ODD, (1, 0, 3, 2)), ("pair", (1, 2)))
        self.assertEqual(parting_fault(wishes=ODD, value=(0, 1, 2, 3)), ("pair", (0, 1)))
        self.assertIs(is_parting(wishes=ODD, value=(0, 1, 2, 3)), False)
        self.assertEqual(parting_fault(ODD, (0, 1, 2)), ("form", -1))
        self.assertEqual(parting_fault(ODD, (0, 1, 1, 3)), ("form", 2))

    def test_which_fault_comes_first(self):
        # Form before turned persons, also if it is of a greater person; turned persons before pairs, also of lesser ones.
        self.assertEqual(parting_fault(ODD, (2, 0, 1, True)), ("form", 3))
        self.assertEqual(parting_fault(ODD, (0, 3, 1, 2)), ("turned", 1))
        self.assertEqual(parting_fault(ODD, (0, None, 9, 2)), ("form", 1))
        self.assertEqual(parting_fault(ODD, (3, 0, 1, 2)), ("turned", 0))

    def test_against_the_words(self):
        for wishes in many_wishes(33, 60, 5) + [squares(1)]:
            found = lasting_partings(wishes)
            for value in naive.partings(wishes):
                self.assertEqual(parting_fault(wishes, value), fault_by_words(wishes, value))
                self.assertIs(is_parting(wishes, value), value in found)
                self.assertIs(is_parting(wishes, value), naive.does_parting_last(wishes, value))

    def test_any_values(self):
        for wishes in (ODD, wishes_of(()), wishes_of((1,), (0,))):
            for value in zoo():
                fault = parting_fault(wishes, value)
                self.assertEqual(fault, ("form", -1) if type(value) is not tuple or len(value) != len(wishes.names) else ("form", 0))
                self.assertIs(is_parting(wishes, value), False)
        for value in wrong_forms((1, 2, 0, 3)):
            self.assertEqual(parting_fault(ODD, value), fault_by_words(ODD, value))
            self.assertIs(is_parting(ODD, value), fault_by_words(ODD, value) is None)
        self.assertIsNone(parting_fault(wishes_of(()), (0,)))
        self.assertEqual(parting_fault(wishes_of(()), (False,)), ("form", 0))

    def test_sixty_persons(self):
        for wishes in sixties():
            self.assertIsNone(parting_fault(wishes, parting_of(wishes)))
        self.assertEqual(parting_fault(ring_wishes(60), tuple(range(60))), ("pair", (0, 1)))


if __name__ == "__main__":
    unittest.main()
