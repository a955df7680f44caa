"""Point 68: the parting that comes about when somebody comes."""

import random
import unittest

from lastpairs.among import is_parting_among, wishes_among
from lastpairs.arrivals import coming_end
from lastpairs.mended import ComingPaper, change_by, changed_part, coming_paper, is_coming_paper, parting_with
from lastpairs.partings import odd_rings, parting_of
from lastpairs.plainpartings import lasting_partings
from tests import naive
from tests.helpers import (
    Hostile, Posing, crossed, many_wishes, rich_wishes, ring_wishes, round_rings, shaken, side_by_side, sixties, squares, wishes_of,
    wrong_forms, zoo,
)
from tests.test_arrivals import FIVE, FOUR, ROWS

# The partings that come about for the rows of the tests of askings, the odd parts before, and what is more or less.
MENDED = (
    ((1, 2, 0, 3), ("more", (0, 1, 2))), ((0, 1, 2, 3), ("more", (1,))), ((0, 1, 3, 2), ("less", (2,))), ((1, 2, 0, 3), ("more", (3,))),
    ((2, 3, 0, 1), ("less", (1, 3, 2))), ((1, 0, 2, 4, 3, 6, 5), ("less", (4, 5, 6))), ((1, 0, 3, 2, 4), ("more", (4,))),
    ((1, 0, 4, 3, 2), ("more", (3,))), (None, None), (None, None), (None, None),
)


def split(parting):
    """Each ring of an even number of persons in pairs, from its least person on."""
    after = list(parting)
    for ring in naive.rings(parting):
        if len(ring) % 2 == 0:
            for at in range(0, len(ring), 2):
                after[ring[at]], after[ring[at + 1]] = ring[at + 1], ring[at]
    return tuple(after)


def before(parting):
    """For each person the one before it, None for nobody."""
    return [naive.before(parting, person) for person in range(len(parting))]


def mended_by_words(wishes, here, parting, person):
    """Told by who is before whom; and all who have been free."""
    parting = split(parting)
    hold, odd = before(parting), [one for ring in naive.odd_rings(parting) for one in ring]
    last, told = before(parting), {}
    refused = {one: [] for one in naive.persons(wishes)}
    freed, free, at, end = [person], person, 0, "alone"
    while True:
        taker = None
        for at in range(at, len(wishes.lists[free])):
            other = wishes.lists[free][at]
            if other in here or other == person:
                if naive.rather(wishes, other, free, hold[other]):
                    taker = other
                    break
                refused[other].append(free)
        if taker is None or taker in freed or hold[taker] is None or taker in odd:
            end = "alone" if taker is None else "ring" if taker in freed else "single" if hold[taker] is None else "broken"
            break
        gone = hold[taker]
        refused[taker].append(gone)
        hold[taker], hold[free], told[free] = free, taker, taker
        freed.append(gone)
        free, at = gone, wishes.lists[gone].index(taker) + 1
    pairs = [(one, hold[one]) for one in set(freed) - {free}]
    for one, other in pairs:
        last[one], last[other] = other, one
    last[free] = None
    if end in ("single", "broken"):
        last[free], last[taker] = taker, free
    if end == "broken":
        rest, one = [], parting[taker]
        while one != taker:
            rest.append(one)
            one = parting[one]
        for one, other in zip(rest[::2], rest[1::2]):
            last[one], last[other] = other, one
    if end == "ring":
        one, last[free] = taker, taker
        while one != free:
            last[one] = hold[one]
            last[hold[one]] = min(refused[hold[one]], key=lambda other: naive.rank(wishes, hold[one], other))
            one = last[hold[one]]
    after = [None] * len(parting)
    for one, other in enumerate(last):
        after[one if other is None else other] = one
    return tuple(after), end, tuple(sorted(set(freed)))


def odd_parts(here, parting):
    return [ring for ring in naive.rings(parting) if len(ring) % 2 and ring[0] in here]


def change(parts, others):
    more, less = [ring for ring in others if ring not in parts], [ring for ring in parts if ring not in others]
    assert len(more) + len(less) == 1
    return ("more", more[0]) if more else ("less", less[0])


def someone_away(wishes, chance):
    """A lot of persons here, and somebody who is not."""
    person = chance.choice(list(naive.persons(wishes)))
    here = tuple(one for one in naive.persons(wishes) if one != person and chance.random() < 0.85)
    return here, person


class MendedTest(unittest.TestCase):
    def test_ordinary(self):
        self.assertEqual(parting_with(FOUR, (0, 1), (1, 0, 2, 3), 2), (1, 2, 0, 3))
        self.assertEqual(changed_part(FOUR, (0, 1, 2), 3), ("more", (3,)))
        self.assertEqual(parting_with(wishes=FOUR, here=(), parting=(0, 1, 2, 3), person=1), (0, 1, 2, 3))
        self.assertEqual(changed_part(wishes=FOUR, here=(2,), person=3), ("less", (2,)))

    def test_each_end(self):
        for (wishes, here, parting, person, _, end, freed), (mended, changed) in zip(ROWS, MENDED):
            by_words = mended_by_words(wishes, here, parting, person)
            self.assertEqual(by_words[1:], (end, freed))
            after = parting_with(wishes, here, parting, person)
            self.assertEqual(after, by_words[0])
            self.assertIs(is_parting_among(wishes, tuple(sorted(here + (person,))), after), True)
            if mended is not None:
                self.assertEqual(after, mended)
                self.assertEqual(changed_part(wishes, here, person), changed)
                self.assertEqual(change_by(here, person, ComingPaper(parting, mended)), changed)

    def test_rings_that_come_about(self):
        self.assertEqual(parting_with(FIVE, (0, 2, 3, 4), (2, 1, 0, 4, 3), 1), parting_with(FIVE, (0, 2, 3, 4), (2, 1, 4, 0, 3), 1))
        # Of a ring of five persons the last one comes.
        five = round_rings(5)
        self.assertEqual(parting_with(five, (0, 1, 2, 3), (1, 0, 3, 2, 4), 4), (1, 2, 3, 4, 0))
        self.assertEqual(changed_part(five, (0, 1, 2, 3), 4), ("more", (0, 1, 2, 3, 4)))
        # And of a ring of even number: the one who is single is paired.
        four = round_rings(4)
        self.assertEqual(changed_part(four, (0, 1, 2), 3)[0], "less")

    def test_the_rest_of_a_broken_ring(self):
        """Rings of three and five are in pairs, from the next one of the one asked on."""
        for many in (3, 5, 7):
            lists = [list(some) for some in round_rings(many).lists]
            lists[1].insert(0, many)
            wishes = wishes_of(*lists, (1,))
            here = tuple(range(many))
            parting = tuple((one + 1) % many for one in here) + (many,)
            after = list(parting)
            after[1], after[many] = many, 1
            for at in range(2, many + 1, 2):
                after[at % many], after[(at + 1) % many] = (at + 1) % many, at % many
            self.assertEqual(coming_end(wishes, here, parting, many), "broken")
            self.assertEqual(parting_with(wishes, here, parting, many), tuple(after))
            self.assertEqual(changed_part(wishes, here, many), ("less", here))

    def test_one_alone(self):
        alone = wishes_of(())
        self.assertEqual(parting_with(alone, (), (0,), 0), (0,))
        self.assertEqual(changed_part(alone, (), 0), ("more", (0,)))
        nobody = wishes_of(*[()] * 60)
        self.assertEqual(parting_with(nobody, tuple(range(59)), tuple(range(60)), 59), tuple(range(60)))
        self.assertEqual(changed_part(nobody, tuple(range(59)), 59), ("more", (59,)))

    def test_against_the_words(self):
        chance = random.Random(68)
        ends = {}
        for wishes in many_wishes(68, 700, 8) + rich_wishes(68, 100) + [ring_wishes(7), round_rings(3, 3), squares(2)] * 5:
            here, person = someone_away(wishes, chance)
            among = wishes_among(wishes, here)
            partings = lasting_partings(among) if len(here) < 6 and len(wishes.names) < 9 else [parting_of(among)]
            for parting in partings:
                after, end, freed = mended_by_words(wishes, here, parting, person)
                self.assertEqual(parting_with(wishes, here, parting, person), after)
                ends.setdefault(end, []).append(len(freed))
                self.check_in_italics(wishes, here, parting, person, after, freed)
        for end in ("ring", "single", "broken", "alone"):
            self.assertGreater(len(ends[end]), 30, end)
            self.assertGreater(max(ends[end]), 1)

    def check_in_italics(self, wishes, here, parting, person, after, freed):
        now = tuple(sorted(here + (person,)))
        self.assertTrue(naive.does_parting_last(wishes_among(wishes, now), after))
        self.assertTrue(naive.is_parting(wishes_among(wishes, now), after))
        old, new = before(split(parting)), before(after)
        worse = tuple(one for one in naive.persons(wishes) if naive.rather(wishes, one, old[one], new[one]))
        self.assertEqual(worse, tuple(one for one in freed if one != person))
        changed = change(odd_parts(here, parting), odd_parts(now, after))
        self.assertEqual(changed_part(wishes, here, person), changed)
        self.assertEqual(change_by(here, person, ComingPaper(parting, after)), changed)

    def test_all_right_papers_tell_the_same(self):
        chance = random.Random(680)
        words = []
        for wishes in many_wishes(680, 80, 5, 2) + [round_rings(4, 1), squares(1), FOUR, FIVE]:
            here, person = someone_away(wishes, chance)
            now = tuple(sorted(here + (person,)))
            firsts, seconds = lasting_partings(wishes_among(wishes, here)), lasting_partings(wishes_among(wishes, now))
            told = {change_by(here, person, ComingPaper(one, other)) for one in firsts for other in seconds}
            self.assertEqual(told, {changed_part(wishes, here, person)})
            for one in naive.partings(wishes):
                self.assertIs(is_coming_paper(wishes, here, person, ComingPaper(one, seconds[0])), one in firsts)
                self.assertIs(is_coming_paper(wishes, here, person, ComingPaper(firsts[0], one)), one in seconds)
            words.append(told.pop()[0])
        self.assertGreater(min(words.count("more"), words.count("less")), 15)

    def test_sixty_persons(self):
        chance = random.Random(681)
        for wishes in sixties() + [shaken(side_by_side(crossed(16), ring_wishes(28)), chance, 60)]:
            for person in (0, 30, 59):
                here = tuple(one for one in range(60) if one != person)
                parting = parting_of(wishes_among(wishes, here))
                after, _, freed = mended_by_words(wishes, here, parting, person)
                self.assertEqual(parting_with(wishes, here, parting, person), after)
                self.assertIs(is_parting_among(wishes, tuple(range(60)), after), True)
                paper = coming_paper(wishes, here, person)
                self.assertIs(is_coming_paper(wishes, here, person, paper), True)
                self.assertEqual(change_by(here, person, paper), changed_part(wishes, here, person))
                self.assertEqual(naive.odd_rings(after), odd_rings(wishes))


class PapersTest(unittest.TestCase):
    def test_attributes(self):
        self.assertEqual(vars(ComingPaper(parting=1, mended=[2])), {"parting": 1, "mended": [2]})
        hostile = Hostile()
        self.assertIs(ComingPaper(hostile, 0).parting, hostile)
        self.assertIs(ComingPaper(0, hostile).mended, hostile)

    def test_ordinary(self):
        here = (0, 1)
        paper = coming_paper(wishes=FOUR, here=here, person=2)
        self.assertEqual((paper.parting, paper.mended), ((1, 0, 2, 3), (1, 2, 0, 3)))
        self.assertIs(is_coming_paper(FOUR, here, 2, paper), True)
        self.assertIs(is_coming_paper(wishes=FOUR, here=here, person=3, value=paper), False)
        # With 3 here, too, both last as well; among 0 and 3 the first one does not.
        self.assertIs(is_coming_paper(FOUR, (0, 1, 3), 2, paper), True)
        self.assertIs(is_coming_paper(FOUR, (0, 3), 2, paper), False)
        self.assertEqual(change_by(here=here, person=2, paper=paper), ("more", (0, 1, 2)))
        # Turned round, or with somebody who is not here.
        for parting, mended in (((1, 2, 0, 3), (1, 0, 2, 3)), ((1, 0, 2, 3), (2, 0, 1, 3)), ((0, 1, 2, 3), (1, 2, 0, 3)), ((1, 0, 3, 2), (1, 2, 0, 3)),
                                ([1, 0, 2, 3], (1, 2, 0, 3)), ((1, 0, 2, 3), (True, 2, 0, 3)), ((1, False, 2, 3), (1, 2, 0, 3))):
            self.assertIs(is_coming_paper(FOUR, here, 2, ComingPaper(parting, mended)), False)

    def test_any_values(self):
        right = coming_paper(FOUR, (0, 1), 2)
        for value in zoo() + [Posing(), (right.parting, right.mended)]:
            self.assertIs(is_coming_paper(FOUR, (0, 1), 2, value), False)
            self.assertIs(is_coming_paper(FOUR, (0, 1), 2, ComingPaper(value, right.mended)), False)
            self.assertIs(is_coming_paper(FOUR, (0, 1), 2, ComingPaper(right.parting, value)), False)
        for value in wrong_forms(right.mended):
            fine = naive.is_parting(FOUR, value) and value == right.mended
            self.assertIs(is_coming_paper(FOUR, (0, 1), 2, ComingPaper(right.parting, value)), fine)
        for value in wrong_forms(right.parting):
            fine = naive.is_parting(FOUR, value) and value == right.parting
            self.assertIs(is_coming_paper(FOUR, (0, 1), 2, ComingPaper(value, right.mended)), fine)


if __name__ == "__main__":
    unittest.main()
