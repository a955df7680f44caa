"""Point 38: papers of wishes."""

import unittest

from lastpairs.partings import parting_of
from lastpairs.statuses import (
    PairingPaper, RingPaper, StatusPaper, is_pairing_paper, is_ring_paper, is_status_paper, status_in, status_paper, wishes_paper,
)
from tests import naive
from tests.helpers import Hostile, Posing, many_wishes, ring_wishes, round_rings, sixties, squares, wishes_of, wrong_forms, zoo

SQUARE = squares(1)
ODD = wishes_of((1, 2, 3), (2, 0, 3), (0, 1, 3), (0, 1, 2))
ONE, OTHER = ((0, 1), (2, 3)), ((0, 3), (1, 2))
PARTING = (1, 2, 0, 3)
CHECKS = (is_pairing_paper, is_ring_paper, is_status_paper)


def status_by_words(parting, person):
    if parting[person] == person:
        return "single"
    return "odd" if any(person in ring for ring in naive.odd_rings(parting)) else "even"


class PapersTest(unittest.TestCase):
    def test_attributes(self):
        self.assertEqual(vars(PairingPaper(pairing=1)), {"pairing": 1})
        self.assertEqual(vars(RingPaper(parting=1, ring=[2])), {"parting": 1, "ring": [2]})
        self.assertEqual(vars(StatusPaper(person=1, status=2, parting=None)), {"person": 1, "status": 2, "parting": None})
        hostile = Hostile()
        self.assertIs(PairingPaper(hostile).pairing, hostile)
        self.assertIs(RingPaper(hostile, 0).parting, hostile)
        self.assertIs(StatusPaper(0, hostile, 0).status, hostile)

    def test_pairing_papers(self):
        self.assertIs(is_pairing_paper(SQUARE, PairingPaper(ONE)), True)
        self.assertIs(is_pairing_paper(wishes=SQUARE, value=PairingPaper(OTHER)), True)
        for pairing in ((), ((0, 1),), list(ONE), ONE[::-1], None, ((0, 1), [2, 3]), ((False, 1), (2, 3)), ((0, True), (2, 3)), (1, 0, 3, 2)):
            self.assertIs(is_pairing_paper(SQUARE, PairingPaper(pairing)), False, pairing)
        self.assertIs(is_pairing_paper(ODD, PairingPaper(ONE)), False)

    def test_ring_papers(self):
        self.assertIs(is_ring_paper(ODD, RingPaper(PARTING, (0, 1, 2))), True)
        self.assertIs(is_ring_paper(wishes=ODD, value=RingPaper(PARTING, (1, 2, 0))), False)
        for ring in ((0, 2, 1), (3,), (0, 1, 2, 3), (), [0, 1, 2], (False, 1, 2), (0, True, 2), (0, 1, 2.0), None, ((0, 1, 2),)):
            self.assertIs(is_ring_paper(ODD, RingPaper(PARTING, ring)), False, ring)
        for parting in ((2, 0, 1, 3), (1, 0, 3, 2), (0, 1, 2, 3), list(PARTING), (True, 2, 0, 3), (1, 2, False, 3), (1, 2, 0), None):
            self.assertIs(is_ring_paper(ODD, RingPaper(parting, (0, 1, 2))), False, parting)
        two = round_rings(3, 1, 3)
        for ring in ((0, 1, 2), (4, 5, 6)):
            self.assertIs(is_ring_paper(two, RingPaper((1, 2, 0, 3, 5, 6, 4), ring)), True)
        # No ring of a parting with none but pairs and even rings will do.
        for ring in ((0, 1, 2, 3), (0,), ()):
            self.assertIs(is_ring_paper(SQUARE, RingPaper((1, 2, 3, 0), ring)), False)

    def test_statuses(self):
        parting = (1, 2, 0, 3, 5, 4, 7, 8, 9, 6)
        words = ["odd"] * 3 + ["single"] + ["even"] * 6
        self.assertEqual([status_in(parting, person) for person in range(10)], words)
        self.assertEqual(status_in(parting=(0,), person=0), "single")

    def test_status_papers(self):
        for person, status in enumerate(("odd", "odd", "odd", "single")):
            for word in ("odd", "single", "even", "Odd", "", None, 0, True, ("odd",), b"odd", ["odd"]):
                self.assertIs(is_status_paper(ODD, StatusPaper(person, word, PARTING)), word == status, word)
        self.assertIs(is_status_paper(wishes=SQUARE, value=StatusPaper(2, "even", (1, 2, 3, 0))), True)
        for person in (4, -1, True, False, 0.0, 1.0, None, "0", (0,), [0]):
            self.assertIs(is_status_paper(ODD, StatusPaper(person, "odd", PARTING)), False, person)
        for parting in ((2, 0, 1, 3), (1, 0, 3, 2), list(PARTING), (True, 2, 0, 3), None):
            self.assertIs(is_status_paper(ODD, StatusPaper(0, "odd", parting)), False, parting)

    def test_papers_that_are_returned(self):
        paper = wishes_paper(wishes=ODD)
        self.assertIsInstance(paper, RingPaper)
        self.assertEqual((paper.parting, paper.ring), (PARTING, (0, 1, 2)))
        paper = wishes_paper(SQUARE)
        self.assertIsInstance(paper, PairingPaper)
        self.assertIn(paper.pairing, (ONE, OTHER))
        paper = status_paper(wishes=ODD, person=3)
        self.assertIsInstance(paper, StatusPaper)
        self.assertEqual((paper.person, paper.status, paper.parting), (3, "single", PARTING))
        alone = status_paper(wishes_of(()), 0)
        self.assertEqual((alone.person, alone.status, alone.parting), (0, "single", (0,)))

    def test_against_the_words(self):
        words = []
        for wishes in many_wishes(38, 150, 6) + [squares(1), round_rings(3, 3), round_rings(4, 1), ring_wishes(6), wishes_of(())]:
            lasting, partings = naive.lasting(wishes), naive.lasting_partings(wishes)
            paper = wishes_paper(wishes)
            self.assertIs(is_pairing_paper(wishes, paper), bool(lasting))
            self.assertIs(is_ring_paper(wishes, paper), not lasting)
            for pairing in naive.pairings(wishes)[:30]:
                self.assertIs(is_pairing_paper(wishes, PairingPaper(pairing)), pairing in lasting)
            for parting in partings:
                for ring in naive.rings(parting):
                    self.assertIs(is_ring_paper(wishes, RingPaper(parting, ring)), len(ring) > 1 and len(ring) % 2 == 1)
            for person in naive.persons(wishes):
                status = status_paper(wishes, person)
                self.assertEqual(status.person, person)
                self.assertIs(is_status_paper(wishes, status), True)
                # It is so in all that last.
                for parting in partings:
                    self.assertEqual(status_in(parting, person), status_by_words(parting, person))
                    self.assertEqual(status_by_words(parting, person), status.status)
                    for word in ("single", "odd", "even"):
                        self.assertIs(is_status_paper(wishes, StatusPaper(person, word, parting)), word == status.status)
                words.append(status.status)
        for word in ("single", "odd", "even"):
            self.assertGreater(words.count(word), 30)

    def test_partings_that_do_not_last(self):
        for wishes in many_wishes(380, 20, 4):
            for parting in naive.partings(wishes):
                lasts = naive.does_parting_last(wishes, parting)
                for person in naive.persons(wishes):
                    self.assertIs(is_status_paper(wishes, StatusPaper(person, status_by_words(parting, person), parting)), lasts)
                for ring in naive.odd_rings(parting):
                    self.assertIs(is_ring_paper(wishes, RingPaper(parting, ring)), lasts)

    def test_any_values(self):
        for value in zoo():
            for wishes in (SQUARE, ODD):
                for check in CHECKS:
                    self.assertIs(check(wishes, value), False)
                    self.assertIs(check(wishes, PairingPaper(value)), False)
                    self.assertIs(check(wishes, RingPaper(value, (0, 1, 2))), False)
                    self.assertIs(check(wishes, RingPaper(PARTING, value)), False)
                    self.assertIs(check(wishes, StatusPaper(value, "odd", PARTING)), False)
                    self.assertIs(check(wishes, StatusPaper(0, value, PARTING)), False)
                    self.assertIs(check(wishes, StatusPaper(0, "odd", value)), False)
        for value in wrong_forms(ONE):
            fine = naive.is_pairing(SQUARE, value) and not naive.blocks(SQUARE, value)
            self.assertIs(is_pairing_paper(SQUARE, PairingPaper(value)), fine)
        for value in wrong_forms(PARTING):
            fine = naive.is_parting(ODD, value) and naive.does_parting_last(ODD, value)
            self.assertIs(is_ring_paper(ODD, RingPaper(value, (0, 1, 2))), fine)
            self.assertIs(is_status_paper(ODD, StatusPaper(0, "odd", value)), fine)
        for value in wrong_forms((0, 1, 2)):
            fine = type(value) is tuple and all(type(part) is int for part in value) and value == (0, 1, 2)
            self.assertIs(is_ring_paper(ODD, RingPaper(PARTING, value)), fine)

    def test_papers_of_other_classes(self):
        papers = (PairingPaper(ONE), RingPaper(PARTING, (0, 1, 2)), StatusPaper(0, "odd", PARTING), StatusPaper(0, "even", (1, 2, 3, 0)), Posing())
        self.assertEqual([is_pairing_paper(SQUARE, paper) for paper in papers], [True, False, False, False, False])
        self.assertEqual([is_ring_paper(ODD, paper) for paper in papers], [False, True, False, False, False])
        self.assertEqual([is_status_paper(SQUARE, paper) for paper in papers], [False, False, False, True, False])
        self.assertEqual([is_status_paper(ODD, paper) for paper in papers], [False, False, True, False, False])

    def test_sixty_persons(self):
        for wishes in sixties():
            paper, parting = wishes_paper(wishes), parting_of(wishes)
            if naive.odd_rings(parting):
                self.assertIs(is_ring_paper(wishes, paper), True)
            else:
                self.assertIs(is_pairing_paper(wishes, paper), True)
            for person in (0, 29, 59):
                status = status_paper(wishes, person)
                self.assertIs(is_status_paper(wishes, status), True)
                self.assertEqual(status.status, status_by_words(parting, person))


if __name__ == "__main__":
    unittest.main()
