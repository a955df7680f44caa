"""Point 70: a lasting parting kept up."""

import random
import unittest

from lastpairs.among import is_parting_among, wishes_among
from lastpairs.comings import parting_by_comings
from lastpairs.keptparting import KeptParting
from lastpairs.partings import odd_rings, parting_of
from tests import naive
from tests.helpers import crossed, many_wishes, raised, rich_wishes, ring_wishes, round_rings, side_by_side, sixties, squares, wishes_of, zoo
from tests.test_arrivals import FIVE, FOUR
from tests.test_leavings import gone_by_words
from tests.test_mended import change, mended_by_words, odd_parts


def state(kept):
    return kept.wishes, kept.here, kept.present_parting(), kept.present_parts()


class KeptTest(unittest.TestCase):
    def test_ordinary(self):
        kept = KeptParting(FOUR)
        self.assertIs(kept.wishes, FOUR)
        self.assertEqual(state(kept), (FOUR, (), (0, 1, 2, 3), ()))
        self.assertEqual(kept.comes(1), ("more", (1,)))
        self.assertEqual(state(kept), (FOUR, (1,), (0, 1, 2, 3), ((1,),)))
        self.assertEqual(kept.comes(person=0), ("less", (1,)))
        self.assertEqual(state(kept), (FOUR, (0, 1), (1, 0, 2, 3), ()))
        self.assertEqual(kept.comes(2), ("more", (0, 1, 2)))
        self.assertEqual(kept.comes(3), ("more", (3,)))
        self.assertEqual(state(kept), (FOUR, (0, 1, 2, 3), (1, 2, 0, 3), ((0, 1, 2), (3,))))
        self.assertEqual(kept.goes(1), ("less", (0, 1, 2)))
        self.assertEqual(state(kept), (FOUR, (0, 2, 3), (2, 1, 0, 3), ((3,),)))
        self.assertEqual(kept.goes(person=3), ("less", (3,)))
        self.assertEqual(kept.goes(0), ("more", (2,)))
        self.assertEqual(kept.goes(2), ("less", (2,)))
        self.assertEqual(state(kept), (FOUR, (), (0, 1, 2, 3), ()))
        self.assertEqual(KeptParting(wishes=FOUR).present_parts(), ())

    def test_refused(self):
        kept = KeptParting(FOUR)
        kept.comes(0)
        kept.comes(2)
        before = state(kept)
        for value in [4, -1, 60, 10**30, True, False, 0.0, 2.0, None, "0", (0,), [0]] + zoo():
            if not (type(value) is int and 0 <= value < 4):
                self.assertEqual(raised(kept.comes, value), ("Refused", "person"))
                self.assertEqual(raised(kept.goes, value), ("Refused", "person"))
        for person in (0, 2):
            self.assertEqual(raised(kept.comes, person), ("Refused", "here"))
        for person in (1, 3):
            self.assertEqual(raised(kept.goes, person), ("Refused", "away"))
        self.assertEqual(state(kept), before)

    def test_one_alone(self):
        kept = KeptParting(wishes_of(()))
        self.assertEqual(raised(kept.goes, 0), ("Refused", "away"))
        self.assertEqual(kept.comes(0), ("more", (0,)))
        self.assertEqual(raised(kept.comes, 0), ("Refused", "here"))
        self.assertEqual(kept.goes(0), ("less", (0,)))

    def test_against_the_words(self):
        chance = random.Random(70)
        told = {"more": 0, "less": 0}
        for wishes in many_wishes(702, 60, 9, 2) + rich_wishes(702, 30) + [FOUR, FIVE, ring_wishes(7), round_rings(3, 3), squares(2)]:
            kept, here, parting = KeptParting(wishes), (), tuple(naive.persons(wishes))
            for _ in range(30):
                person = chance.randrange(len(wishes.names))
                before = odd_parts(here, parting)
                if person in here and chance.random() < 0.6:
                    parting = gone_by_words(wishes, here, parting, person)
                    here = tuple(one for one in here if one != person)
                    changed = kept.goes(person)
                elif person in here:
                    self.assertEqual(raised(kept.comes, person), ("Refused", "here"))
                    continue
                else:
                    parting = mended_by_words(wishes, here, parting, person)[0]
                    here = tuple(sorted(here + (person,)))
                    changed = kept.comes(person)
                self.assertEqual(state(kept), (wishes, here, parting, tuple(odd_parts(here, parting))))
                self.assertEqual(changed, change(before, odd_parts(here, parting)))
                self.assertTrue(naive.does_parting_last(wishes_among(wishes, here), parting))
                # As made anew.
                self.assertEqual(kept.present_parts(), tuple(odd_parts(here, parting_of(wishes_among(wishes, here)))))
                told[changed[0]] += 1
        self.assertGreater(min(told.values()), 300)

    def test_two_by_turns(self):
        """Two kept partings of the same wishes have nothing to do with one another."""
        chance = random.Random(703)
        wishes = round_rings(3, 4, 3)
        one, other = KeptParting(wishes), KeptParting(wishes)
        for person in chance.sample(range(10), 10):
            one.comes(person)
            if person % 2:
                before = state(other)
                one.goes(person)
                self.assertEqual(state(other), before)
                other.comes(person)
        self.assertEqual((one.here, other.here), ((0, 2, 4, 6, 8), (1, 3, 5, 7, 9)))
        for kept in (one, other):
            self.assertIs(is_parting_among(wishes, kept.here, kept.present_parting()), True)

    def test_all_who_come(self):
        chance = random.Random(704)
        for wishes in many_wishes(704, 40, 8) + sixties()[:4]:
            order = tuple(chance.sample(list(naive.persons(wishes)), len(wishes.names)))
            kept = KeptParting(wishes)
            for person in order:
                kept.comes(person)
            self.assertEqual(kept.present_parting(), parting_by_comings(wishes, order))
            self.assertEqual(kept.here, tuple(naive.persons(wishes)))

    def test_sixty_persons(self):
        chance = random.Random(705)
        for wishes in sixties() + [side_by_side(crossed(16), ring_wishes(28))]:
            kept = KeptParting(wishes)
            for person in chance.sample(range(60), 60):
                kept.comes(person)
            self.assertEqual(naive.odd_rings(kept.present_parting()), odd_rings(wishes))
            for person in chance.sample(range(60), 40):
                kept.goes(person)
            self.assertIs(is_parting_among(wishes, kept.here, kept.present_parting()), True)
            self.assertEqual(len(kept.here), 20)


if __name__ == "__main__":
    unittest.main()
