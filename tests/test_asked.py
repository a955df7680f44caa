"""Point 55: questions asked."""

import random
import unittest

from lastpairs.asked import asked
from lastpairs.conditions import answers_all, is_question
from lastpairs.plain import is_lasting
from lastpairs.turns import all_turns, opposite_turn
from tests import naive
from tests.helpers import (
    crossed, ladder, many_wishes, rich_wishes, ring_wishes, round_rings, side_by_side, sixties, squares, two_sided_ring, wishes_of,
)
from tests.test_turnviews import meets_by_words

SQUARE = squares(1)
ONE, TWO = ((0, 1), (2, 3)), ((0, 3), (1, 2))
ODD = round_rings(3)
CHAIN = wishes_of((1,), (0, 2), (1,))
SHAPES = [SQUARE, squares(2), squares(3), crossed(2), crossed(4), ring_wishes(6), CHAIN, wishes_of(()), wishes_of(*two_sided_ring(8)),
          side_by_side(ring_wishes(6), SQUARE), side_by_side(CHAIN, SQUARE), ladder(6)]


def some_condition(wishes, chance):
    many = len(wishes.names)
    word = chance.choice(("with", "without", "best", "worst", "either", "either", "either")) if many > 1 else chance.choice(("best", "worst"))
    if word in ("best", "worst"):
        return word, chance.randrange(many), chance.choice((0, 0, 1, 1, 2, 2, 3, 60))

    def two():
        one = chance.randrange(many)
        # Mostly somebody on the list.
        some = wishes.lists[one] if wishes.lists[one] and chance.random() < 0.85 else [other for other in range(many) if other != one]
        return one, chance.choice(some)
    return (word, *two(), *two()) if word == "either" else (word, *two())


def some_questions(wishes, chance, count):
    for _ in range(count):
        question = tuple(some_condition(wishes, chance) for _ in range(chance.choice((0, 1, 1, 2, 2, 3, 4, 6))))
        assert is_question(wishes, question)
        yield question


def lasting_of(wishes):
    """All lasting pairings: by trying, for few persons."""
    if len(wishes.names) < 9:
        return naive.lasting(wishes)
    if any(naive.opposite(turn) == turn for turn in naive.all_turns(wishes)):
        return ()
    return tuple(sorted(naive.pairing_of_parting(naive.parting_of_lot(wishes, lot)) for lot in naive.complete_lots(wishes)))


def answers_by_words(wishes, lasting, question):
    return [pairing for pairing in lasting if all(meets_by_words(wishes, pairing, condition) for condition in question)]


class AskedTest(unittest.TestCase):
    def test_ordinary(self):
        self.assertEqual(asked(SQUARE, (("best", 1, 0),)), TWO)
        self.assertIsNone(asked(SQUARE, (("with", 0, 1), ("best", 1, 0))))
        self.assertEqual(asked(SQUARE, (("either", 0, 2, 0, 3),)), TWO)
        self.assertEqual(asked(wishes=SQUARE, question=(("without", 3, 0),)), ONE)
        self.assertEqual(asked(SQUARE, (("worst", 1, 1),)), ONE)

    def test_without_conditions(self):
        self.assertIn(asked(SQUARE, ()), (ONE, TWO))
        self.assertEqual(asked(CHAIN, ()), ((0, 1),))
        self.assertEqual(asked(wishes_of(()), ()), ())
        self.assertEqual(asked(wishes_of(*[()] * 60), ()), ())
        self.assertIsNone(asked(ODD, ()))
        self.assertIsNone(asked(side_by_side(ODD, SQUARE), (("with", 3, 4),)))

    def test_conditions_twice_and_against_one_another(self):
        self.assertEqual(asked(SQUARE, (("with", 0, 1),) * 2), ONE)
        self.assertEqual(asked(SQUARE, (("with", 0, 1), ("with", 1, 0), ("with", 3, 2))), ONE)
        for question in (
            (("with", 0, 1), ("without", 0, 1)), (("with", 0, 1), ("with", 0, 3)), (("best", 0, 0), ("worst", 0, 1)), (("best", 0, 0), ("best", 1, 0)),
            (("either", 0, 1, 2, 3), ("either", 0, 3, 1, 2)), (("worst", 0, 1), ("worst", 1, 1)), (("without", 0, 1), ("without", 0, 3)),
        ):
            self.assertIsNone(asked(SQUARE, question), question)

    def test_conditions_that_are_never_met(self):
        for condition in (("with", 0, 2), ("worst", 0, 2), ("worst", 0, 10**30), ("either", 0, 2, 1, 3)):
            self.assertIsNone(asked(SQUARE, (condition,)))
            self.assertIsNone(asked(SQUARE, (("best", 0, 9), condition)))
        for condition in (("best", 2, 0), ("best", 2, 60), ("with", 1, 2), ("with", 0, 2), ("without", 0, 1)):
            self.assertIsNone(asked(CHAIN, (condition,)))
        for condition in (("worst", 2, 0), ("worst", 2, 60), ("without", 1, 2), ("without", 0, 2), ("worst", 0, 0), ("best", 0, 60)):
            self.assertEqual(asked(CHAIN, (condition,)), ((0, 1),))

    def test_against_all_lasting(self):
        chance = random.Random(55)
        found = {True: 0, False: 0}
        for wishes in many_wishes(55, 120, 8) + rich_wishes(55, 100) + SHAPES * 2:
            lasting = lasting_of(wishes)
            for question in some_questions(wishes, chance, 12):
                answers = answers_by_words(wishes, lasting, question)
                self.assertIn(asked(wishes, question), answers or [None])
                if len(lasting) > 1:
                    found[bool(answers)] += 1
        self.assertGreater(min(found.values()), 300)

    def test_clauses_that_tie_choices(self):
        """Conditions of two pairs in chains, which leave just one answer, or none."""
        for many in (2, 5, 15):
            wishes = squares(many)
            # If one square has its first pairing, the next one has it, too.
            chain = tuple(("either", 4 * at, 4 * at + 3, 4 * at + 4, 4 * at + 5) for at in range(many - 1))
            pairing = asked(wishes, chain + (("with", 0, 1),))
            self.assertEqual(pairing, tuple((2 * at, 2 * at + 1) for at in range(2 * many)))
            self.assertIsNone(asked(wishes, chain + (("with", 0, 1), ("with", 4 * many - 4, 4 * many - 1))))
            self.assertIsNotNone(asked(wishes, chain + (("with", 4 * many - 4, 4 * many - 1),)))
            back = ("either", 4 * many - 4, 4 * many - 1, 0, 3)
            self.assertIsNone(asked(wishes, chain + (back, ("either", 0, 1, 0, 2))))
            self.assertIsNotNone(asked(wishes, chain + (back,)))

    def test_sixty_persons(self):
        chance = random.Random(550)
        answered = 0
        for wishes in sixties() + [side_by_side(crossed(16), crossed(8), crossed(4), crossed(2)), ladder(30), squares(15)]:
            odd = any(opposite_turn(turn) == turn for turn in all_turns(wishes))
            for question in [(), *some_questions(wishes, chance, 6), tuple(some_condition(wishes, chance) for _ in range(200))]:
                pairing = asked(wishes, question)
                if odd:
                    self.assertIsNone(pairing)
                elif pairing is not None:
                    self.assertTrue(is_lasting(wishes, pairing) and answers_all(wishes, pairing, question))
                    answered += 1
                    # What an answer has can all be asked for.
                    told = tuple(("with", one, other) for one, other in pairing)
                    self.assertEqual(asked(wishes, question + told), pairing)
        self.assertGreater(answered, 20)


if __name__ == "__main__":
    unittest.main()
