"""Points 62 and 63, and the ranks of a pairing: bounds, and papers for them."""

import random
import unittest

from lastpairs.bounds import (
    bars_within, cut_wishes, is_within, is_within_paper, pairing_within, ranks_of_pairing, within_paper,
)
from lastpairs.plain import is_lasting
from lastpairs.plainpartings import lasting_partings
from tests import naive
from tests.helpers import many_wishes, ring_wishes, round_rings, sixties, squares, wishes_of, wrong_forms, zoo

SQUARE = squares(1)
ODD = wishes_of((1, 2, 3), (2, 0, 3), (0, 1, 3), (0, 1, 2))
NONE = (None,) * 4
ONE, OTHER = ((0, 1), (2, 3)), ((0, 3), (1, 2))


def is_within_by_words(wishes, bounds, pairing):
    for person, bound in enumerate(bounds):
        mate = naive.mate(pairing, person)
        if bound is not None and (mate is None or naive.rank(wishes, person, mate) > bound):
            return False
    return True


def cut_by_words(wishes, bounds):
    lists = []
    for i in naive.persons(wishes):
        lists.append(tuple(
            j for j in wishes.lists[i]
            if (bounds[i] is None or naive.rank(wishes, i, j) <= bounds[i]) and (bounds[j] is None or naive.rank(wishes, j, i) <= bounds[j])
        ))
    return tuple(lists)


def bars_by_words(wishes, bounds, parting):
    cut = wishes_of(*cut_by_words(wishes, bounds))
    if not naive.is_parting(cut, parting) or not naive.does_parting_last(cut, parting):
        return False
    return bool(naive.odd_rings(parting)) or any(bounds[person] is not None for person in naive.singles(parting))


def some_bounds(wishes, chance):
    return tuple(
        None if chance.random() < 0.5 else chance.choice((-1, 0, 0, 1, 1, len(some) - 1, len(some), 99)) for some in wishes.lists
    )


class BoundsTest(unittest.TestCase):
    def test_ordinary(self):
        self.assertEqual(ranks_of_pairing(SQUARE, ONE), (0, 1, 0, 1))
        self.assertEqual(ranks_of_pairing(wishes=SQUARE, pairing=((0, 3),)), (1, None, None, 0))
        self.assertIs(is_within(SQUARE, (0, None, None, None), ONE), True)
        self.assertIs(is_within(wishes=SQUARE, bounds=(0, 0, None, None), pairing=ONE), False)
        self.assertIs(is_within(SQUARE, (None, 1, None, 7), ONE), True)
        self.assertEqual(cut_wishes(SQUARE, (0, 0, None, None)).lists, ((), (2,), (3, 1), (2,)))
        self.assertEqual(cut_wishes(wishes=SQUARE, bounds=(0, None, None, None)).lists, ((1,), (2, 0), (3, 1), (2,)))
        self.assertEqual(cut_wishes(SQUARE, NONE), SQUARE)
        self.assertEqual(pairing_within(SQUARE, (0, None, None, None)), ONE)
        self.assertEqual(pairing_within(wishes=SQUARE, bounds=(None, 0, None, None)), OTHER)
        self.assertIsNone(pairing_within(SQUARE, (0, 0, None, None)))

    def test_single_persons(self):
        """A single person meets no bound, however great."""
        chain = wishes_of((1,), (0, 2), (1,))
        self.assertIs(is_within(chain, (None, None, 9), ((0, 1),)), False)
        self.assertIs(is_within(chain, (0, 0, None), ((0, 1),)), True)
        self.assertIsNone(pairing_within(chain, (None, None, 9)))
        self.assertEqual(pairing_within(chain, (0, 0, None)), ((0, 1),))
        self.assertEqual(within_paper(chain, (None, None, 0)), ("barred", (1, 0, 2)))
        self.assertIs(is_within_paper(chain, (None, None, 0), ("barred", (1, 0, 2))), True)
        self.assertIs(is_within_paper(chain, (0, None, None), ("barred", (1, 0, 2))), False)

    def test_bounds_that_nobody_meets(self):
        for wishes in (SQUARE, ODD, wishes_of((1,), (0,)), wishes_of(()), ring_wishes(60)):
            many = len(wishes.names)
            for bounds in ((-1,) * many, (-1,) + (None,) * (many - 1)):
                self.assertIsNone(pairing_within(wishes, bounds))
                word, parting = within_paper(wishes, bounds)
                self.assertEqual((word, parting[0]), ("barred", 0))
                self.assertIs(bars_within(wishes, bounds, parting), True)
            self.assertEqual(cut_wishes(wishes, (-1,) * many).lists, ((),) * many)
            self.assertIs(is_within(wishes, (-1,) * many, ()), False)
            self.assertIs(is_within(wishes, (None,) * many, ()), True)
        self.assertEqual(cut_wishes(SQUARE, (-1, None, None, None)).lists, ((), (2,), (3, 1), (2,)))

    def test_papers(self):
        self.assertEqual(within_paper(SQUARE, (0, None, None, None)), ("within", ONE))
        self.assertEqual(within_paper(wishes=SQUARE, bounds=(0, 0, None, None)), ("barred", (0, 1, 3, 2)))
        self.assertIs(is_within_paper(SQUARE, NONE, ("within", OTHER)), True)
        self.assertIs(is_within_paper(wishes=SQUARE, bounds=(0, None, None, None), value=("within", OTHER)), False)
        self.assertIs(is_within_paper(SQUARE, (0, None, None, None), ("within", ((0, 1),))), False)
        self.assertIs(is_within_paper(SQUARE, (0, 0, None, None), ("barred", (0, 1, 3, 2))), True)
        self.assertIs(is_within_paper(SQUARE, NONE, ("barred", (0, 1, 3, 2))), False)
        # A parting of the cut wishes that does not last bars nothing.
        self.assertIs(is_within_paper(SQUARE, (0, 0, None, None), ("barred", (0, 1, 2, 3))), False)
        # One that lasts among all wishes, with nobody single and no odd ring.
        self.assertIs(bars_within(SQUARE, (1, 1, 1, 1), (1, 2, 3, 0)), False)
        self.assertIs(bars_within(wishes=ODD, bounds=NONE, value=(1, 2, 0, 3)), True)
        for value in (("within", None), ("within",), ("within", ONE, ONE), ["within", ONE], ("Within", ONE), ("barred", ONE), ("within", (1, 0, 3, 2)),
                      ("within", list(ONE)), (ONE, "within"), ONE, None, "within", ("", ONE), (0, ONE)):
            self.assertIs(is_within_paper(SQUARE, NONE, value), False, value)

    def test_without_lasting_pairings(self):
        self.assertIsNone(pairing_within(ODD, NONE))
        self.assertEqual(within_paper(ODD, NONE), ("barred", (1, 2, 0, 3)))
        # Bounds bar 0 and 1 from having 3, but the ring stays.
        self.assertIsNone(pairing_within(ODD, (1, 1, None, None)))
        self.assertEqual(cut_wishes(ODD, (1, 1, None, None)).lists, ((1, 2), (2, 0), (0, 1, 3), (2,)))

    def test_against_the_words(self):
        chance = random.Random(62)
        words = []
        for wishes in (many_wishes(62, 120, 6, 2) + [SQUARE, ODD, squares(1), round_rings(3, 3), ring_wishes(6)] * 3):
            lasting, pairings = naive.lasting(wishes), naive.pairings(wishes)
            for _ in range(3):
                bounds = some_bounds(wishes, chance)
                self.assertEqual(cut_wishes(wishes, bounds).lists, cut_by_words(wishes, bounds))
                for pairing in pairings[:40]:
                    self.assertIs(is_within(wishes, bounds, pairing), is_within_by_words(wishes, bounds, pairing))
                    self.assertEqual(ranks_of_pairing(wishes, pairing), tuple(
                        None if mate is None else naive.rank(wishes, person, mate)
                        for person, mate in ((one, naive.mate(pairing, one)) for one in naive.persons(wishes))
                    ))
                within = [pairing for pairing in lasting if is_within_by_words(wishes, bounds, pairing)]
                self.check(wishes, bounds, within)
                words.append(within_paper(wishes, bounds)[0])
                cut = cut_wishes(wishes, bounds)
                bound = [person for person, most in enumerate(bounds) if most is not None]
                # Those within are the lasting ones of the cut wishes in which all with a bound have mates.
                self.assertEqual(within, [one for one in naive.lasting(cut) if all(naive.mate(one, person) is not None for person in bound)])
        self.assertGreater(words.count("within"), 60)
        self.assertGreater(words.count("barred"), 60)

    def check(self, wishes, bounds, within):
        paper = within_paper(wishes, bounds)
        self.assertIs(is_within_paper(wishes, bounds, paper), True)
        if within:
            self.assertEqual(paper[0], "within")
            self.assertIn(paper[1], within)
            self.assertIn(pairing_within(wishes, bounds), within)
        else:
            self.assertEqual(paper[0], "barred")
            self.assertTrue(bars_by_words(wishes, bounds, paper[1]))
            self.assertIsNone(pairing_within(wishes, bounds))
        # There are right ones of just one of the two forms.
        for parting in lasting_partings(cut_wishes(wishes, bounds)):
            bars = bars_by_words(wishes, bounds, parting)
            self.assertEqual(bars, not within)
            self.assertIs(bars_within(wishes, bounds, parting), bars)
            self.assertIs(is_within_paper(wishes, bounds, ("barred", parting)), bars)
        for pairing in naive.pairings(wishes)[:30]:
            self.assertIs(is_within_paper(wishes, bounds, ("within", pairing)), pairing in within)

    def test_all_partings(self):
        chance = random.Random(63)
        for wishes in many_wishes(63, 40, 4, 2):
            bounds = some_bounds(wishes, chance)
            for parting in naive.partings(wishes):
                self.assertIs(bars_within(wishes, bounds, parting), bars_by_words(wishes, bounds, parting))

    def test_any_values(self):
        bounds = (0, 0, None, None)
        for value in zoo():
            for word in ("within", "barred"):
                self.assertIs(is_within_paper(SQUARE, bounds, (word, value)), False)
            self.assertIs(is_within_paper(SQUARE, bounds, value), False)
            self.assertIs(is_within_paper(SQUARE, bounds, (value, (0, 1, 3, 2))), False)
            self.assertIs(bars_within(SQUARE, bounds, value), False)
        for value in wrong_forms((0, 1, 3, 2)):
            fine = naive.is_parting(SQUARE, value) and bars_by_words(SQUARE, bounds, value)
            self.assertIs(bars_within(SQUARE, bounds, value), fine)
            self.assertIs(is_within_paper(SQUARE, bounds, ("barred", value)), fine)
        for value in wrong_forms(ONE):
            fine = naive.is_pairing(SQUARE, value) and value == ONE
            self.assertIs(is_within_paper(SQUARE, (0, None, None, None), ("within", value)), fine)

    def test_sixty_persons(self):
        chance = random.Random(64)
        for wishes in sixties():
            for bounds in ((None,) * 60, (59,) * 60, (30,) * 60, some_bounds(wishes, chance)):
                word, told = within_paper(wishes, bounds)
                self.assertIs(is_within_paper(wishes, bounds, (word, told)), True)
                if word == "within":
                    self.assertTrue(is_lasting(wishes, told) and is_within_by_words(wishes, bounds, told))
                    self.assertEqual(pairing_within(wishes, bounds), told)
                else:
                    self.assertIsNone(pairing_within(wishes, bounds))


if __name__ == "__main__":
    unittest.main()
