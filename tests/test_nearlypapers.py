"""Point 74: papers of greatest calm pairings, and of fewest persons away."""

import random
import unittest

from lastpairs.calm import most_calm
from lastpairs.away import least_aways
from lastpairs.nearlypapers import AwayPaper, CalmPaper, away_paper, calm_paper, is_away_paper, is_calm_paper
from lastpairs.partings import parting_of
from lastpairs.plainpartings import lasting_partings
from tests import naive
from tests.helpers import (
    Hostile, Posing, many_wishes, raised, ring_wishes, round_rings, side_by_side, sixties, squares, wishes_of, wrong_forms, zoo,
)

SQUARE = squares(1)
ODD = wishes_of((1, 2, 3), (2, 0, 3), (0, 1, 3), (0, 1, 2))
PARTING = (1, 2, 0, 3)
ONE, OTHER = ((0, 1), (2, 3)), ((0, 3), (1, 2))
TWO = round_rings(3, 3)
SHAPES = [SQUARE, ODD, TWO, round_rings(5), round_rings(4, 1), round_rings(3, 1), ring_wishes(6), wishes_of(()), wishes_of((1,), (0,)),
          wishes_of(*[()] * 5), wishes_of((1,), (0, 2), (1,))]


def is_calm_right(wishes, pairing, parting, partings):
    if not naive.is_pairing(wishes, pairing) or parting not in partings:
        return False
    lacking = len(naive.singles(parting)) + len(naive.odd_rings(parting))
    return not naive.calm_blocks(wishes, pairing) and 2 * len(pairing) == len(wishes.names) - lacking


def is_away_right(wishes, persons, pairing, parting, partings):
    if persons not in naive.lots(naive.persons(wishes)) or parting not in partings or not naive.is_pairing(wishes, pairing):
        return False
    if len(naive.odd_rings(parting)) != len(persons) or any(person in persons for pair in pairing for person in pair):
        return False
    return all(set(pair) & set(persons) for pair in naive.blocks(wishes, pairing))


class PapersTest(unittest.TestCase):
    def test_attributes(self):
        self.assertEqual(vars(CalmPaper(pairing=1, parting=[2])), {"pairing": 1, "parting": [2]})
        self.assertEqual(vars(AwayPaper(persons=1, pairing=2, parting=None)), {"persons": 1, "pairing": 2, "parting": None})
        hostile = Hostile()
        self.assertIs(CalmPaper(hostile, 0).pairing, hostile)
        self.assertIs(AwayPaper(hostile, 0, 0).persons, hostile)

    def test_calm_papers(self):
        for pairing in (((0, 1),), ((0, 2),), ((1, 2),)):
            self.assertIs(is_calm_paper(ODD, CalmPaper(pairing, PARTING)), True)
        # Calm, and with fewer pairs; with more of them, and not calm; with another person.
        for pairing in ((), ((0, 1), (2, 3)), ((0, 2), (1, 3))):
            self.assertIs(is_calm_paper(wishes=ODD, value=CalmPaper(pairing, PARTING)), False)
        for parting in ((1, 0, 3, 2), (2, 0, 1, 3), (0, 1, 2, 3), [1, 2, 0, 3], (True, 2, 0, 3), None):
            self.assertIs(is_calm_paper(ODD, CalmPaper(((0, 1),), parting)), False, parting)
        self.assertIs(is_calm_paper(SQUARE, CalmPaper(ONE, (1, 2, 3, 0))), True)
        self.assertIs(is_calm_paper(SQUARE, CalmPaper(ONE[:1], (1, 2, 3, 0))), False)
        self.assertIs(is_calm_paper(SQUARE, CalmPaper(list(ONE), (1, 2, 3, 0))), False)

    def test_away_papers(self):
        for persons, pairing in (((0,), ((1, 2),)), ((1,), ((0, 2),)), ((2,), ((0, 1),))):
            self.assertIs(is_away_paper(ODD, AwayPaper(persons, pairing, PARTING)), True)
        for persons, pairing in (
            ((0,), ((0, 1),)), ((0,), ((0, 1), (2, 3))), ((), ((0, 1),)), ((3,), ((0, 1),)), ((0, 3), ((1, 2),)), ((0,), ()), ((0,), ((1, 3),)),
            ([0], ((1, 2),)), ((False,), ((1, 2),)), ((0, 0), ((1, 2),)), ((4,), ((1, 2),)), ((-1,), ((1, 2),)), (0, ((1, 2),)), ((0,), [(1, 2)]),
        ):
            self.assertIs(is_away_paper(wishes=ODD, value=AwayPaper(persons, pairing, PARTING)), False, persons)
        # Each pair that blocks has 0, but 0 is in a pair, as the lesser one or the greater one.
        self.assertEqual(naive.blocks(ODD, ((0, 3), (1, 2))), ((0, 2),))
        self.assertIs(is_away_paper(ODD, AwayPaper((0,), ((0, 3), (1, 2)), PARTING)), False)
        for wishes in many_wishes(741, 40, 5, 3) + [ODD, TWO]:
            parting = parting_of(wishes)
            for pairing in naive.pairings(wishes):
                for persons in naive.lots(naive.persons(wishes)):
                    fine = is_away_right(wishes, persons, pairing, parting, [parting])
                    self.assertIs(is_away_paper(wishes, AwayPaper(persons, pairing, parting)), fine)
        for parting in ((1, 0, 3, 2), (2, 0, 1, 3), [1, 2, 0, 3], (1, 2, False, 3), None):
            self.assertIs(is_away_paper(ODD, AwayPaper((0,), ((1, 2),), parting)), False, parting)
        self.assertIs(is_away_paper(SQUARE, AwayPaper((), OTHER, (1, 2, 3, 0))), True)
        self.assertIs(is_away_paper(SQUARE, AwayPaper((), (), (1, 2, 3, 0))), False)

    def test_persons_who_are_not_the_told_ones(self):
        """Others than one of each odd ring can be away, too."""
        wishes = wishes_of((1, 2), (2, 0), (0, 1, 3), (2,))
        self.assertEqual(naive.odd_rings(parting_of(wishes)), ((0, 1, 2),))
        # Without 2 the pair of 0 and 1 lasts, and 3 is single.
        self.assertIs(is_away_paper(wishes, AwayPaper((2,), ((0, 1),), PARTING)), True)
        others = 0
        for wishes in many_wishes(740, 150, 6, 3) + SHAPES:
            parting = parting_of(wishes)
            on_rings = [person for ring in naive.odd_rings(parting) for person in ring]
            for persons in least_aways(wishes):
                rest = [pairing for pairing in naive.pairings(wishes) if is_away_right(wishes, persons, pairing, parting, [parting])]
                self.assertTrue(rest)
                self.assertIs(is_away_paper(wishes, AwayPaper(persons, rest[0], parting)), True)
                others += any(person not in on_rings for person in persons)
        self.assertGreater(others, 0)

    def test_papers_that_are_returned(self):
        paper = calm_paper(wishes=ODD)
        self.assertIsInstance(paper, CalmPaper)
        self.assertEqual((len(paper.pairing), paper.parting), (1, PARTING))
        paper = away_paper(wishes=ODD)
        self.assertIsInstance(paper, AwayPaper)
        self.assertEqual((len(paper.persons), len(paper.pairing), paper.parting), (1, 1, PARTING))
        for wishes in (wishes_of(()), wishes_of(*[()] * 60)):
            self.assertEqual(calm_paper(wishes).pairing, ())
            self.assertEqual((away_paper(wishes).persons, away_paper(wishes).pairing), ((), ()))
            self.assertIs(is_calm_paper(wishes, calm_paper(wishes)), True)
            self.assertIs(is_away_paper(wishes, away_paper(wishes)), True)

    def test_against_the_words(self):
        chance = random.Random(74)
        right = wrong = 0
        for wishes in many_wishes(74, 90, 6) + SHAPES:
            partings, pairings = naive.lasting_partings(wishes), naive.pairings(wishes)
            calm, away = calm_paper(wishes), away_paper(wishes)
            self.assertIs(is_calm_paper(wishes, calm), True)
            self.assertIs(is_away_paper(wishes, away), True)
            self.assertTrue(is_calm_right(wishes, calm.pairing, calm.parting, partings))
            self.assertTrue(is_away_right(wishes, away.persons, away.pairing, away.parting, partings))
            most = max(len(pairing) for pairing in pairings if not naive.calm_blocks(wishes, pairing))
            self.assertEqual((len(calm.pairing), most_calm(wishes)), (most, most))
            self.assertIn(away.persons, least_aways(wishes))
            lots = naive.lots(naive.persons(wishes))
            for pairing in chance.sample(pairings, min(25, len(pairings))):
                for parting in chance.sample(partings, min(3, len(partings))) + chance.sample(naive.partings(wishes), 1):
                    fine = is_calm_right(wishes, pairing, parting, partings)
                    self.assertIs(is_calm_paper(wishes, CalmPaper(pairing, parting)), fine)
                    persons = chance.choice(lots)
                    also = is_away_right(wishes, persons, pairing, parting, partings)
                    self.assertIs(is_away_paper(wishes, AwayPaper(persons, pairing, parting)), also)
                    right, wrong = right + fine + also, wrong + 2 - fine - also
        self.assertGreater(min(right, wrong), 200)

    def test_two_pairs_more_or_less(self):
        """The numbers of pairs, of odd rings and of single persons hang together."""
        wishes = side_by_side(TWO, SQUARE)
        parting = parting_of(wishes)
        paper = calm_paper(wishes)
        self.assertEqual(len(paper.pairing), 4)
        for pairing in (paper.pairing[1:], paper.pairing[2:], ()):
            self.assertIs(is_calm_paper(wishes, CalmPaper(pairing, parting)), False)
        # All that last have the same odd rings: any of them will do.
        for other in lasting_partings(SQUARE):
            whole = parting[:6] + tuple(6 + person for person in other)
            self.assertIs(is_calm_paper(wishes, CalmPaper(paper.pairing, whole)), True)
        away = away_paper(wishes)
        self.assertEqual(len(away.persons), 2)
        self.assertIs(is_away_paper(wishes, AwayPaper((0, 3), ((1, 2), (4, 5), (6, 7), (8, 9)), parting)), True)
        for persons in ((0,), (0, 3, 6), (0, 1), ()):
            self.assertIs(is_away_paper(wishes, AwayPaper(persons, ((1, 2), (4, 5), (6, 7), (8, 9)), parting)), False)

    def test_any_values(self):
        calm, away = calm_paper(ODD), away_paper(ODD)
        papers = (calm, away, Posing(), (calm.pairing, calm.parting))
        self.assertEqual([is_calm_paper(ODD, paper) for paper in papers], [True, False, False, False])
        self.assertEqual([is_away_paper(ODD, paper) for paper in papers], [False, True, False, False])
        for value in zoo():
            for paper in (value, CalmPaper(value, PARTING), CalmPaper(calm.pairing, value), AwayPaper(value, away.pairing, PARTING),
                          AwayPaper(away.persons, value, PARTING), AwayPaper(away.persons, away.pairing, value)):
                self.assertIs(is_calm_paper(ODD, paper), False)
                self.assertIs(is_away_paper(ODD, paper), False)
        partings = naive.lasting_partings(ODD)
        for value in wrong_forms(PARTING):
            fine = naive.is_parting(ODD, value) and value in partings
            self.assertIs(is_calm_paper(ODD, CalmPaper(calm.pairing, value)), fine)
            self.assertIs(is_away_paper(ODD, AwayPaper(away.persons, away.pairing, value)), fine)
        for value in wrong_forms(((0, 1),)):
            self.assertIs(is_calm_paper(ODD, CalmPaper(value, PARTING)), is_calm_right(ODD, value, PARTING, partings))
            fine = naive.is_pairing(ODD, value) and is_away_right(ODD, (2,), value, PARTING, partings)
            self.assertIs(is_away_paper(ODD, AwayPaper((2,), value, PARTING)), fine)
        for value in wrong_forms((2,)):
            fine = type(value) is tuple and len(value) == 1 and naive.is_number(value[0]) and value == (2,)
            self.assertIs(is_away_paper(ODD, AwayPaper(value, ((0, 1),), PARTING)), fine)

    def test_sixty_persons(self):
        for wishes in sixties():
            self.assertIs(is_calm_paper(wishes, calm_paper(wishes)), True)
            self.assertIs(is_away_paper(wishes, away_paper(wishes)), True)
            self.assertEqual(len(calm_paper(wishes).pairing), most_calm(wishes))
            if raised(least_aways, wishes) is None:
                self.assertIn(away_paper(wishes).persons, least_aways(wishes))


if __name__ == "__main__":
    unittest.main()
