"""Points 23 and 24: asking, in any sequence."""

import random
import unittest

from lastpairs.left import are_within, is_steady
from lastpairs.plain import lasting_pairings, single_in
from lastpairs.proposals import asked_once, asked_out, askers, askers_by, holds_behind, is_asking, left_single
from tests import naive
from tests.helpers import many_wishes, raised, random_wishes, ring_wishes, squares, wishes_of, wrong_forms, zoo

FIVE = wishes_of((1, 3), (2, 0), (3, 1), (0, 2, 4), (3,))
NOBODY = (None,) * 5


class AskingTest(unittest.TestCase):
    def test_ordinary(self):
        self.assertEqual(askers(FIVE, NOBODY), (0, 1, 2, 3, 4))
        self.assertEqual(askers(wishes=FIVE, holds=(None, None, None, 0, None)), (1, 2, 3))
        self.assertEqual(asked_once(FIVE, NOBODY, 4), (None, None, None, 4, None))
        self.assertEqual(asked_once(FIVE, (None, None, None, 4, None), 0), (None, 0, None, 4, None))
        self.assertEqual(asked_once(wishes=FIVE, holds=(None, None, None, 4, None), person=2), (None, None, None, 2, None))
        self.assertEqual(holds_behind(FIVE, ()), NOBODY)
        self.assertEqual(holds_behind(FIVE, (4, 2, 0)), (None, 0, None, 2, None))
        self.assertEqual(asked_out(FIVE), (3, 0, 1, 2, None))
        self.assertEqual(left_single(FIVE), (4,))

    def test_refused(self):
        holds = (None, None, None, 4, None)
        self.assertEqual(raised(asked_once, FIVE, holds, 4), ("Refused", "asker"))
        self.assertEqual(raised(asked_once, FIVE, (None, None, None, 0, None), 4), ("Refused", "asker"))
        self.assertEqual(raised(asked_once, FIVE, holds, 5), ("Refused", "asker"))
        self.assertEqual(raised(asked_once, FIVE, holds, -1), ("Refused", "asker"))
        self.assertEqual(raised(asked_once, FIVE, NOBODY, True), ("Refused", "asker"))
        self.assertEqual(raised(asked_once, FIVE, NOBODY, 0.0), ("Refused", "asker"))
        self.assertEqual(raised(asked_once, wishes_of(()), (None,), 0), ("Refused", "asker"))
        self.assertEqual(raised(holds_behind, FIVE, (0, 0)), ("Refused", "asker"))
        self.assertEqual(raised(holds_behind, FIVE, (2, 4)), ("Refused", "asker"))
        for value in zoo():
            self.assertEqual(raised(asked_once, FIVE, NOBODY, value), ("Refused", "asker"))

    def test_any_holds(self):
        chance = random.Random(23)
        for wishes in many_wishes(23, 60, 7):
            for _ in range(8):
                holds = tuple(chance.choice(some + (None, None)) for some in wishes.lists)
                can = tuple(person for person in naive.persons(wishes) if naive.can_ask(wishes, holds, person))
                self.assertEqual(askers(wishes, holds), can)
                for person in naive.persons(wishes):
                    if person in can:
                        self.assertEqual(asked_once(wishes, holds, person), naive.asked(wishes, holds, person))
                    else:
                        self.assertEqual(raised(asked_once, wishes, holds, person), ("Refused", "asker"))

    def test_is_asking(self):
        self.assertIs(is_asking(FIVE, (0, 1, 2, 3)), True)
        self.assertIs(is_asking(FIVE, (0, 1, 2)), False)
        self.assertIs(is_asking(FIVE, (0, 1, 2, 3, 4)), False)
        self.assertIs(is_asking(FIVE, (3, 2, 1, 0)), True)
        self.assertIs(is_asking(FIVE, (4, 2, 1, 0, 3)), True)
        self.assertIs(is_asking(FIVE, (4, 2, 1, 0)), False)
        self.assertIs(is_asking(FIVE, [3, 2, 1, 0]), False)
        self.assertIs(is_asking(FIVE, ()), False)
        self.assertIs(is_asking(wishes_of(()), ()), True)
        self.assertIs(is_asking(wishes_of((), ()), (0,)), False)
        for value in zoo():
            self.assertIs(is_asking(FIVE, value), False)
        for value in wrong_forms((3, 2, 1, 0)):
            self.assertIs(is_asking(FIVE, value), self.is_asking_by_words(FIVE, value))

    def is_asking_by_words(self, wishes, value):
        if type(value) is not tuple:
            return False
        holds = naive.follow(wishes, value)
        return holds is not None and not any(naive.can_ask(wishes, holds, person) for person in naive.persons(wishes))

    def test_order(self):
        self.assertEqual(askers_by(FIVE, (0, 1, 2, 3, 4)), (0, 1, 2, 3))
        self.assertEqual(askers_by(wishes=FIVE, order=(4, 3, 2, 1, 0)), (4, 3, 2, 1, 0))
        self.assertEqual(askers_by(wishes_of((), ()), (1, 0)), ())


class AnySequenceTest(unittest.TestCase):
    def test_against_the_words(self):
        chance = random.Random(24)
        for wishes in many_wishes(24, 150, 8):
            out = asked_out(wishes)
            order = list(naive.persons(wishes))
            for _ in range(4):
                chance.shuffle(order)
                row = askers_by(wishes, tuple(order))
                holds = (None,) * len(order)
                for person in row:
                    self.assertEqual(person, [other for other in order if naive.can_ask(wishes, holds, other)][0])
                    holds = naive.asked(wishes, holds, person)
                self.assertTrue(is_asking(wishes, row))
                self.assertFalse(row and is_asking(wishes, row[:-1]))
                self.assertEqual(holds_behind(wishes, row), out)
                self.assertEqual(holds, out)
                self.assertLessEqual(len(row), sum(map(len, wishes.lists)))
            self.assertTrue(naive.is_steady(wishes, out))

    def test_the_greatest_steady_holds(self):
        for wishes in many_wishes(25, 40, 5):
            for holds in naive.steady_tables(wishes):
                self.assertTrue(are_within(wishes, holds, asked_out(wishes)))

    def test_single(self):
        for wishes in many_wishes(26, 80, 7):
            single = left_single(wishes)
            self.assertEqual(single, tuple(at for at, held in enumerate(asked_out(wishes)) if held is None))
            for pairing in lasting_pairings(wishes):
                self.assertEqual(single_in(wishes, pairing), single)
            for parting in naive.lasting_partings(wishes) if len(wishes.names) < 7 else ():
                self.assertEqual(tuple(at for at, follower in enumerate(parting) if at == follower), single)

    def test_sixty_persons(self):
        self.assertEqual(asked_out(ring_wishes(60)), tuple((person - 1) % 60 for person in range(60)))
        self.assertEqual(left_single(wishes_of(*[()] * 60)), tuple(range(60)))
        self.assertTrue(is_steady(squares(15), asked_out(squares(15))))
        chance = random.Random(60)
        for _ in range(3):
            wishes = random_wishes(chance, 60)
            self.assertTrue(is_steady(wishes, asked_out(wishes)))
        # All like the persons in the same sequence, and ask the same ones one after another.
        alike = wishes_of(*[[other for other in range(60) if other != person] for person in range(60)])
        self.assertEqual(asked_out(alike), tuple(person ^ 1 for person in range(60)))


if __name__ == "__main__":
    unittest.main()
