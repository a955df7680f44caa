"""Point 57: pairs that all lasting pairings have, or some, or those that answer a question."""

import random
import unittest

from lastpairs.asked import asked
from lastpairs.pairsin import pairs_forced, pairs_in_all, pairs_in_some, pairs_wished
from lastpairs.turnkinds import free_turns
from tests import naive
from tests.helpers import crossed, ladder, many_wishes, raised, rich_wishes, ring_wishes, round_rings, side_by_side, sixties, squares, wishes_of
from tests.test_asked import SHAPES, answers_by_words, lasting_of, some_questions

SQUARE = squares(1)
ODD = round_rings(3)
CHAIN = wishes_of((1,), (0, 2), (1,))
ALL = ((0, 1), (0, 3), (1, 2), (2, 3))


def in_all(pairings):
    return tuple(sorted(set.intersection(*[set(pairing) for pairing in pairings])))


def in_some(pairings):
    return tuple(sorted({pair for pairing in pairings for pair in pairing}))


class PairsInTest(unittest.TestCase):
    def test_ordinary(self):
        self.assertEqual(pairs_in_all(SQUARE), ())
        self.assertEqual(pairs_in_some(SQUARE), ALL)
        self.assertEqual(pairs_in_all(wishes=CHAIN), ((0, 1),))
        self.assertEqual(pairs_in_some(wishes=CHAIN), ((0, 1),))
        both = side_by_side(CHAIN, SQUARE)
        self.assertEqual(pairs_in_all(both), ((0, 1),))
        self.assertEqual(len(pairs_in_some(both)), 5)
        self.assertEqual(pairs_wished(SQUARE, (("best", 1, 0),)), ((0, 3), (1, 2)))
        self.assertEqual(pairs_wished(wishes=SQUARE, question=()), ALL)
        self.assertEqual(pairs_forced(SQUARE, (("best", 1, 0),)), ((0, 3), (1, 2)))
        self.assertEqual(pairs_forced(wishes=SQUARE, question=()), ())

    def test_nobody(self):
        for many in (1, 60):
            wishes = wishes_of(*[()] * many)
            self.assertEqual((pairs_in_all(wishes), pairs_in_some(wishes), pairs_wished(wishes, ()), pairs_forced(wishes, ())), ((), (), (), ()))

    def test_without_lasting_pairings(self):
        for wishes in (ODD, side_by_side(ODD, SQUARE), side_by_side(crossed(16), ODD)):
            self.assertEqual(raised(pairs_in_all, wishes), ("Refused", "ring"))
            self.assertEqual(raised(pairs_in_some, wishes), ("Refused", "ring"))
            for question in ((), (("with", 0, 1),), (("worst", 0, 9),)):
                self.assertEqual(pairs_wished(wishes, question), ())
                self.assertEqual(raised(pairs_forced, wishes, question), ("Refused", "question"))

    def test_questions_without_answers(self):
        for question in ((("with", 0, 2),), (("with", 0, 1), ("with", 0, 3)), (("worst", 0, 2),)):
            self.assertEqual(pairs_wished(SQUARE, question), ())
            self.assertEqual(raised(pairs_forced, SQUARE, question), ("Refused", "question"))

    def test_against_all_lasting(self):
        chance = random.Random(57)
        several = forced = 0
        for wishes in many_wishes(57, 120, 8) + rich_wishes(57, 100) + SHAPES:
            lasting = lasting_of(wishes)
            if not lasting:
                self.assertEqual(raised(pairs_in_all, wishes), ("Refused", "ring"))
                self.assertEqual(raised(pairs_in_some, wishes), ("Refused", "ring"))
            else:
                self.assertEqual((pairs_in_all(wishes), pairs_in_some(wishes)), (in_all(lasting), in_some(lasting)))
                # In all, or a giver with its taker in a free turn.
                turned = {(min(pair), max(pair)) for turn in free_turns(wishes) for pair in turn}
                self.assertEqual(set(in_some(lasting)), turned | set(in_all(lasting)))
            for question in some_questions(wishes, chance, 6):
                answers = answers_by_words(wishes, lasting, question)
                self.assertEqual(pairs_wished(wishes, question), in_some(answers))
                if answers:
                    self.assertEqual(pairs_forced(wishes, question), in_all(answers))
                    several += len(answers) > 1
                    forced += bool(in_all(answers)) and in_all(answers) != in_all(lasting)
                else:
                    self.assertEqual(raised(pairs_forced, wishes, question), ("Refused", "question"))
        self.assertGreater(min(several, forced), 100)

    def test_sixty_persons(self):
        chance = random.Random(570)
        for wishes in sixties() + [side_by_side(crossed(16), crossed(8), crossed(4), crossed(2)), ladder(30), squares(15), ring_wishes(60)]:
            if raised(pairs_in_some, wishes) is not None:
                continue
            some, each = pairs_in_some(wishes), pairs_in_all(wishes)
            self.assertLessEqual(set(each), set(some))
            for question in [(), *some_questions(wishes, chance, 3)]:
                if asked(wishes, question) is None:
                    continue
                wished, forced = pairs_wished(wishes, question), pairs_forced(wishes, question)
                self.assertTrue(set(forced) <= set(asked(wishes, question)) <= set(wished) <= set(some))
                for pair in chance.sample(some, min(8, len(some))):
                    self.assertEqual(pair in wished, asked(wishes, question + (("with",) + pair,)) is not None)
                    self.assertEqual(pair in forced, asked(wishes, question + (("without",) + pair,)) is None)


if __name__ == "__main__":
    unittest.main()
