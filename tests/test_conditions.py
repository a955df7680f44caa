"""Point 53: conditions and questions."""

import unittest
from itertools import product

from lastpairs.conditions import answers_all, is_condition, is_question, meets
from tests import naive
from tests.helpers import many_wishes, wishes_of, wrong_forms, zoo

FIVE = wishes_of((1, 3), (2, 0), (3, 1), (0, 2, 4), (3,))
CONDITIONS = (("with", 0, 1), ("without", 4, 0), ("best", 1, 0), ("worst", 2, 61), ("either", 0, 2, 3, 1))


def is_condition_by_words(wishes, value):
    if type(value) is not tuple or not value or type(value[0]) is not str or not all(map(naive.is_number, value[1:])):
        return False
    word, told, many = value[0], value[1:], len(wishes.names)
    if word in ("best", "worst"):
        return len(told) == 2 and told[0] < many
    if len(told) != {"with": 2, "without": 2, "either": 4}.get(word) or max(told) >= many:
        return False
    return told[0] != told[1] and told[-2] != told[-1]


class ConditionTest(unittest.TestCase):
    def test_ordinary(self):
        for condition in CONDITIONS:
            self.assertIs(is_condition(FIVE, condition), True, condition)
            self.assertIs(is_question(FIVE, (condition,)), True)
        self.assertIs(is_question(FIVE, CONDITIONS), True)
        self.assertIs(is_question(wishes=FIVE, value=()), True)
        self.assertIs(is_condition(FIVE, ("best", 0, 10**20)), True)
        self.assertIs(is_condition(FIVE, ("either", 0, 1, 0, 1)), True)

    def test_wrong(self):
        for value in (("with", 0, 0), ("with", 0, 5), ("with", 0), ("with", 0, 1, 2), ("without", 1, 1), ("best", 5, 0), ("best", 0, -1),
                      ("best", 0), ("worst", 0, 1, 2), ("worst", -1, 0), ("worst", 0, True), ("best", False, 0), ("with", 0, True),
                      ("either", 0, 1), ("either", 0, 1, 2, 2), ("either", 0, 0, 2, 3), ("either", 0, 1, 2, 5), ("either", 0, 1, 2),
                      ["with", 0, 1], ("among", 0, 1), ("", 0, 1), (), ("with",), (0, 1), "with", None, ("best", 0, 1.0),
                      ("best", 0, None), ("With", 0, 1), (("with", 0, 1),)):
            self.assertIs(is_condition(FIVE, value), False, value)
            self.assertIs(is_question(FIVE, (("with", 0, 1), value)), False, value)
        for value in (list(CONDITIONS), CONDITIONS[0], "with", None, {CONDITIONS[0]: 1}):
            self.assertIs(is_question(FIVE, value), False)

    def test_any_values(self):
        for value in zoo():
            self.assertIs(is_condition(FIVE, value), False)
            self.assertIs(is_question(FIVE, (value,)), False)
        for condition in CONDITIONS:
            for value in wrong_forms(condition):
                self.assertIs(is_condition(FIVE, value), is_condition_by_words(FIVE, value))
        for value in wrong_forms(CONDITIONS[:2]):
            fine = type(value) is tuple and all(is_condition_by_words(FIVE, part) for part in value)
            self.assertIs(is_question(FIVE, value), fine)


class MeetsTest(unittest.TestCase):
    def test_ordinary(self):
        pairing = ((0, 1), (2, 3))
        for condition, expected in (
            (("with", 0, 1), True), (("with", 1, 0), True), (("with", 0, 3), False), (("with", 4, 3), False), (("with", 4, 0), False),
            (("without", 0, 1), False), (("without", 1, 0), False), (("without", 0, 3), True), (("without", 4, 0), True),
            (("best", 0, 0), True), (("best", 1, 0), False), (("best", 1, 1), True), (("best", 4, 9), False), (("best", 3, 0), False),
            (("worst", 0, 0), True), (("worst", 0, 1), False), (("worst", 1, 1), True), (("worst", 1, 2), False), (("worst", 4, 9), True),
            (("either", 0, 1, 0, 3), True), (("either", 0, 3, 1, 0), True), (("either", 0, 3, 1, 2), False),
            (("either", 4, 0, 3, 2), True), (("either", 4, 0, 4, 3), False),
        ):
            self.assertIs(meets(FIVE, pairing, condition), expected, condition)
        self.assertIs(meets(wishes=FIVE, pairing=(), condition=("worst", 0, 5)), True)
        self.assertIs(answers_all(FIVE, pairing, ()), True)
        self.assertIs(answers_all(FIVE, pairing, (("with", 0, 1), ("best", 0, 0))), True)
        self.assertIs(answers_all(wishes=FIVE, pairing=pairing, question=(("with", 0, 1), ("best", 1, 0))), False)
        self.assertIs(answers_all(FIVE, pairing, (("best", 1, 0), ("with", 0, 1))), False)

    def test_against_the_words(self):
        for wishes in many_wishes(53, 10, 4, 2):
            persons = naive.persons(wishes)
            couples = [(i, j) for i in persons for j in persons if i != j]
            for pairing in naive.pairings(wishes):
                mates = [naive.mate(pairing, person) for person in persons]
                for i, j in couples:
                    self.assertIs(meets(wishes, pairing, ("with", i, j)), mates[i] == j)
                    self.assertIs(meets(wishes, pairing, ("without", i, j)), mates[i] != j)
                for i, rank in product(persons, range(5)):
                    has = mates[i] is not None
                    self.assertIs(meets(wishes, pairing, ("best", i, rank)), has and naive.rank(wishes, i, mates[i]) <= rank)
                    self.assertIs(meets(wishes, pairing, ("worst", i, rank)), not has or naive.rank(wishes, i, mates[i]) >= rank)
                for one, other in product(couples, couples):
                    self.assertIs(is_condition(wishes, ("either",) + one + other), True)
                    expected = mates[one[0]] == one[1] or mates[other[0]] == other[1]
                    self.assertIs(meets(wishes, pairing, ("either",) + one + other), expected)


if __name__ == "__main__":
    unittest.main()
