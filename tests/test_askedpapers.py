"""Point 56: papers for questions."""

import random
import unittest

from lastpairs.asked import asked
from lastpairs.askedpapers import AnswerPaper, NeverPaper, WalkPaper, asked_paper, is_answer_paper, is_never_paper, is_walk_paper
from lastpairs.statuses import PairingPaper, RingPaper, is_ring_paper
from lastpairs.turns import all_turns, opposite_turn, whole_row
from lastpairs.turnviews import clauses_of
from tests import naive
from tests.helpers import (
    Hostile, Posing, crossed, is_plain, ladder, many_wishes, rich_wishes, ring_wishes, round_rings, side_by_side, sixties, squares,
    wishes_of, wrong_forms, zoo,
)
from tests.test_asked import SHAPES, answers_by_words, lasting_of, some_condition, some_questions

SQUARE = squares(1)
RING, OTHER = ((0, 1), (2, 3)), ((1, 2), (3, 0))
ONE, TWO = ((0, 1), (2, 3)), ((0, 3), (1, 2))
ODD = round_rings(3)
SIX = ring_wishes(6)
ROW = whole_row(SIX)
# Neither of the two pairings will do.
NEITHER = (("without", 0, 1), ("without", 0, 3))
CHECKS = (is_answer_paper, is_never_paper, is_walk_paper)


def has_odd(wishes):
    return any(naive.opposite(turn) == turn for turn in naive.all_turns(wishes))


def is_walk_by_words(wishes, question, turns):
    known = naive.all_turns(wishes)
    if has_odd(wishes) or type(turns) is not tuple or not turns or not all(turn in known for turn in turns):
        return False
    clauses = [set(clause) for condition in question for clause in clauses_of(wishes, condition)]
    for turn, other in zip(turns, turns[1:]):
        if not naive.leans(wishes, turn, other) and {other, naive.opposite(turn)} not in clauses:
            return False
    return turns[0] == turns[-1] and naive.opposite(turns[0]) in turns


class PapersTest(unittest.TestCase):
    def test_attributes(self):
        for kind, name in ((AnswerPaper, "pairing"), (NeverPaper, "place"), (WalkPaper, "turns")):
            self.assertEqual(vars(kind(**{name: [1]})), {name: [1]})
            hostile = Hostile()
            self.assertIs(getattr(kind(hostile), name), hostile)

    def test_answer_papers(self):
        question = (("best", 1, 0),)
        self.assertIs(is_answer_paper(SQUARE, question, AnswerPaper(TWO)), True)
        self.assertIs(is_answer_paper(wishes=SQUARE, question=question, value=AnswerPaper(ONE)), False)
        for pairing in (ONE, TWO):
            self.assertIs(is_answer_paper(SQUARE, (), AnswerPaper(pairing)), True)
        for pairing in ((), ((0, 1),), list(TWO), None, TWO[::-1], ((False, 3), (1, 2)), (1, 0, 3, 2)):
            self.assertIs(is_answer_paper(SQUARE, (), AnswerPaper(pairing)), False, pairing)
        self.assertIs(is_answer_paper(ODD, (), AnswerPaper(((0, 1),))), False)
        self.assertIs(is_answer_paper(SQUARE, (), PairingPaper(ONE)), False)

    def test_never_papers(self):
        question = (("with", 0, 1), ("with", 0, 2), ("best", 0, 0), ("worst", 0, 2))
        self.assertEqual([is_never_paper(SQUARE, question, NeverPaper(place)) for place in range(6)], [False, True, False, True, False, False])
        for place in (True, False, 1.0, -1, -3, "1", None, (1,), 10**30):
            self.assertIs(is_never_paper(wishes=SQUARE, question=question, value=NeverPaper(place)), False, place)
        self.assertIs(is_never_paper(SQUARE, (), NeverPaper(0)), False)
        # Only if there is no odd ring.
        for wishes in (ODD, side_by_side(SQUARE, ODD)):
            self.assertEqual(clauses_of(wishes, ("worst", 0, 9)), ((),))
            self.assertIs(is_never_paper(wishes, (("worst", 0, 9),), NeverPaper(0)), False)
        chain = wishes_of((1,), (0, 2), (1,))
        self.assertIs(is_never_paper(chain, (("without", 0, 1),), NeverPaper(0)), True)
        self.assertIs(is_never_paper(chain, (("best", 2, 60),), NeverPaper(0)), True)
        self.assertIs(is_never_paper(chain, (("worst", 2, 60),), NeverPaper(0)), False)

    def test_walk_papers(self):
        # Not the one turn, so its opposite; not this one, so the turn.
        for walk in ((RING, OTHER, RING), (OTHER, RING, OTHER), (RING, OTHER, RING, OTHER, RING)):
            self.assertIs(is_walk_paper(SQUARE, NEITHER, WalkPaper(walk)), True)
            self.assertIs(is_walk_paper(SQUARE, (("with", 0, 1), ("with", 0, 3)), WalkPaper(walk)), True)
            self.assertIs(is_walk_paper(SQUARE, NEITHER[:1], WalkPaper(walk)), False)
            self.assertIs(is_walk_paper(SQUARE, (), WalkPaper(walk)), False)
        # A clause of a turn and its opposite: each calls for itself.
        both = NEITHER
        self.assertEqual([clauses_of(SQUARE, condition) for condition in both], [((RING,),), ((OTHER,),)])
        either = (("either", 0, 1, 0, 3),)
        self.assertEqual(clauses_of(SQUARE, either[0]), ((RING, OTHER),))
        self.assertIs(is_walk_paper(SQUARE, either, WalkPaper((RING, RING))), False)
        self.assertIs(is_walk_paper(SQUARE, either + both, WalkPaper((RING, RING, OTHER, OTHER, RING))), True)
        self.assertIs(is_walk_paper(SQUARE, either + both[:1], WalkPaper((RING, RING, OTHER, OTHER, RING))), False)

    def test_walks_that_end_elsewhere(self):
        question = (("with", 0, 1), ("with", 0, 3))
        for walk in ((), (RING,), (RING, OTHER), (RING, RING), (OTHER, OTHER, OTHER), (RING, OTHER, OTHER), [RING, OTHER, RING], RING, None,
                     (RING, OTHER[::-1], RING), (list(RING), OTHER, RING), (((0, True), (2, 3)), OTHER, RING), (RING, None, RING), ((RING, OTHER, RING),)):
            self.assertIs(is_walk_paper(wishes=SQUARE, question=question, value=WalkPaper(walk)), False, walk)

    def test_walks_over_turns_that_lean(self):
        """Of a chain of four turns the last ones lean on those before, and are opposites of the first ones."""
        self.assertIs(is_walk_paper(SIX, (), WalkPaper(ROW[::-1])), False)
        sure, never = ROW[0], ROW[3]
        self.assertEqual(opposite_turn(sure), never)
        giver, taker = sure[0]
        # Without what is sure nothing lasts.
        question = (("with", giver, taker),)
        self.assertEqual(clauses_of(SIX, question[0])[0], (never,))
        self.assertIs(is_walk_paper(SIX, question, WalkPaper((sure, never) + ROW[2:0:-1] + (sure,))), True)
        self.assertIs(is_walk_paper(SIX, question, WalkPaper((never,) + ROW[2::-1] + (never,))), True)
        self.assertIs(is_walk_paper(SIX, question, WalkPaper((sure, never, ROW[1], sure))), False)
        self.assertIs(is_walk_paper(SIX, question, WalkPaper((sure, never, sure))), False)
        self.assertIs(is_walk_paper(SIX, (), WalkPaper((sure, never) + ROW[2:0:-1] + (sure,))), False)
        paper = asked_paper(SIX, question)
        self.assertIsInstance(paper, WalkPaper)
        self.assertTrue(is_walk_by_words(SIX, question, paper.turns))

    def test_only_without_odd_rings(self):
        wishes = side_by_side(SQUARE, ODD)
        question = (("with", 0, 1), ("with", 0, 3))
        self.assertIs(is_walk_paper(wishes, question, WalkPaper((RING, OTHER, RING))), False)
        odd = ((4, 5), (5, 6), (6, 4))
        for walk in ((odd,), (odd, odd)):
            self.assertIs(is_walk_paper(wishes, (), WalkPaper(walk)), False)
            self.assertIs(is_walk_paper(wishes, (("with", 4, 5),), WalkPaper(walk)), False)

    def test_papers_that_are_returned(self):
        paper = asked_paper(SQUARE, (("best", 1, 0),))
        self.assertIsInstance(paper, AnswerPaper)
        self.assertEqual(paper.pairing, TWO)
        paper = asked_paper(wishes=SQUARE, question=(("best", 1, 0), ("with", 0, 2)))
        self.assertIsInstance(paper, NeverPaper)
        self.assertEqual(paper.place, 1)
        self.assertIs(type(paper.place), int)
        paper = asked_paper(SQUARE, (("with", 0, 1), ("with", 0, 3)))
        self.assertIsInstance(paper, WalkPaper)
        self.assertIn(paper.turns, ((RING, OTHER, RING), (OTHER, RING, OTHER)))
        for question in ((), (("with", 0, 2),), (("with", 3, 4), ("with", 3, 6))):
            paper = asked_paper(side_by_side(ODD, SQUARE), question)
            self.assertIsInstance(paper, RingPaper)
            self.assertIs(is_ring_paper(side_by_side(ODD, SQUARE), paper), True)
        self.assertEqual(asked_paper(wishes_of(()), ()).pairing, ())

    def test_against_all_lasting(self):
        chance = random.Random(56)
        kinds = {AnswerPaper: 0, NeverPaper: 0, WalkPaper: 0, RingPaper: 0}
        for wishes in many_wishes(56, 100, 8) + rich_wishes(56, 100) + SHAPES * 2:
            lasting = lasting_of(wishes)
            for question in some_questions(wishes, chance, 8):
                paper = asked_paper(wishes, question)
                kinds[paper.__class__] += 1
                fine = [check(wishes, question, paper) for check in CHECKS] + [is_ring_paper(wishes, paper)]
                self.assertEqual(fine, [isinstance(paper, kind) for kind in kinds])
                answers = answers_by_words(wishes, lasting, question)
                self.assertEqual(bool(answers), isinstance(paper, AnswerPaper))
                if isinstance(paper, WalkPaper):
                    self.assertTrue(is_walk_by_words(wishes, question, paper.turns))
                for pairing in lasting[:8]:
                    self.assertIs(is_answer_paper(wishes, question, AnswerPaper(pairing)), pairing in answers)
                for place, condition in enumerate(question):
                    never = () in clauses_of(wishes, condition) and not has_odd(wishes)
                    self.assertIs(is_never_paper(wishes, question, NeverPaper(place)), never)
                    # There is a right answer exactly if there is no right paper of the other kinds.
                    self.assertFalse(never and answers)
        self.assertGreater(min(kinds.values()), 40)

    def test_all_short_walks(self):
        chance = random.Random(560)
        right = 0
        for wishes in rich_wishes(560, 60) + [SQUARE, SIX, squares(2)] * 3:
            turns = all_turns(wishes)
            for question in some_questions(wishes, chance, 4):
                paper = asked_paper(wishes, question)
                walks = [tuple(chance.choice(turns) for _ in range(chance.randint(1, 4))) for _ in range(4)] if turns else []
                if isinstance(paper, WalkPaper):
                    at = chance.randrange(len(paper.turns))
                    walks += [paper.turns, paper.turns[::-1], paper.turns[1:], paper.turns[:-1], paper.turns[1:] + paper.turns[1:2],
                              paper.turns + paper.turns[1:], paper.turns[:at] + paper.turns[at + 1:], paper.turns[:at] + paper.turns[at:at + 1] + paper.turns[at:]]
                for walk in walks:
                    fine = is_walk_by_words(wishes, question, walk)
                    self.assertIs(is_walk_paper(wishes, question, WalkPaper(walk)), fine)
                    right += fine
        self.assertGreater(right, 100)

    def test_any_values(self):
        question = (("with", 0, 1), ("with", 0, 3), ("with", 0, 2))
        for value in zoo() + [Posing(), ONE, 2, (RING, OTHER, RING)]:
            for check in CHECKS:
                for paper in (value, AnswerPaper(value), WalkPaper(value), WalkPaper((value, OTHER, value)), WalkPaper((RING, value, RING))):
                    if not (isinstance(paper, AnswerPaper) and value is ONE) and not (isinstance(paper, WalkPaper) and is_plain(paper.turns)):
                        self.assertIs(check(SQUARE, question, paper), False)
                self.assertIs(check(SQUARE, question, NeverPaper(value)), check is is_never_paper and type(value) is int and value == 2)
        papers = (AnswerPaper(ONE), NeverPaper(2), WalkPaper((RING, OTHER, RING)), RingPaper((1, 2, 0), (0, 1, 2)))
        self.assertEqual([[check(SQUARE, question, paper) for paper in papers] for check in CHECKS], [
            [False, False, False, False], [False, True, False, False], [False, False, True, False],
        ])
        for value in wrong_forms((RING, OTHER, RING)):
            fine = is_plain(value) and is_walk_by_words(SQUARE, question, value)
            self.assertIs(is_walk_paper(SQUARE, question, WalkPaper(value)), fine)
        for value in wrong_forms(ONE):
            fine = naive.is_pairing(SQUARE, value) and value == ONE
            self.assertIs(is_answer_paper(SQUARE, question[:1], AnswerPaper(value)), fine)

    def test_sixty_persons(self):
        chance = random.Random(561)
        kinds = set()
        for wishes in sixties() + [side_by_side(crossed(16), crossed(8), crossed(4), crossed(2)), ladder(30), squares(15)]:
            for question in [*some_questions(wishes, chance, 5), tuple(some_condition(wishes, chance) for _ in range(100))]:
                paper = asked_paper(wishes, question)
                self.assertEqual(sum(check(wishes, question, paper) for check in CHECKS) + is_ring_paper(wishes, paper), 1)
                self.assertEqual(isinstance(paper, AnswerPaper), asked(wishes, question) is not None)
                kinds.add(paper.__class__)
        self.assertEqual(len(kinds), 4)


if __name__ == "__main__":
    unittest.main()
