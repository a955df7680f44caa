"""Point 67: who asks whom when somebody comes."""

import unittest

from lastpairs.among import is_parting_among, wishes_among
from lastpairs.arrivals import coming_end, coming_row, freed_persons, is_coming_row
from lastpairs.partings import parting_of
from lastpairs.plainpartings import lasting_partings
from tests import naive
from tests.helpers import is_plain, many_wishes, ring_wishes, round_rings, sixties, squares, wishes_of, wrong_forms, zoo

FOUR = wishes_of((1, 2, 3), (2, 0, 3), (0, 1, 3), (0, 1, 2))
FIVE = wishes_of((2, 3, 4, 1), (0, 3, 4, 2), (4, 0, 3, 1), (2, 0, 1, 4), (0, 1, 3, 2))

# Wishes, who is here, a parting, who comes, all askings, the word of the end, and who has been free.
ROWS = (
    (FOUR, (0, 1), (1, 0, 2, 3), 2, ((2, 0), (2, 1), (0, 2)), "ring", (0, 2)),
    (FOUR, (), (0, 1, 2, 3), 1, (), "alone", (1,)),
    (FOUR, (2,), (0, 1, 2, 3), 3, ((3, 2),), "single", (3,)),
    # Two who are asked before would not have the one who comes.
    (FOUR, (0, 1, 2), (1, 2, 0, 3), 3, ((3, 0), (3, 1), (3, 2)), "alone", (3,)),
    # On the ring of 1, 2 and 3, 2 would rather have 0 than 1.
    (wishes_of((2, 1), (3, 2, 0), (0, 1, 3), (2, 1)), (1, 2, 3), (0, 3, 1, 2), 0, ((0, 2),), "broken", (0,)),
    # 0 lets 3 go, who finds somebody on the ring of 4, 5 and 6.
    (
        wishes_of((1, 3), (0,), (), (0, 4), (3, 5, 6), (6, 4), (4, 5)), (0, 3, 4, 5, 6), (3, 1, 2, 0, 5, 6, 4), 1, ((1, 0), (3, 4)),
        "broken", (1, 3),
    ),
    # The ring of four is split first: 0 has 1 then, whom it would rather have, and not 3, who was before it.
    (wishes_of((1, 4, 3), (2, 0), (3, 1), (0, 2), (0,)), (0, 1, 2, 3), (1, 2, 3, 0, 4), 4, ((4, 0),), "alone", (4,)),
    (
        wishes_of((4, 1, 2), (0, 2, 4), (1, 0, 4, 3), (4, 2), (2, 3, 0, 1)), (0, 1, 2, 4), (4, 0, 1, 3, 2), 3,
        ((3, 4), (0, 1), (2, 0), (2, 4), (3, 2)), "alone", (0, 2, 3),
    ),
    # 1 is let go by 0, and free again.
    (FIVE, (0, 2, 3, 4), (2, 1, 0, 4, 3), 1, ((1, 0), (1, 3), (4, 2), (0, 3), (1, 4)), "ring", (0, 1, 4)),
    (FIVE, (0, 2, 3, 4), (2, 1, 4, 0, 3), 1, ((1, 0), (1, 3), (4, 2), (0, 3), (1, 4)), "ring", (0, 1, 4)),
    (
        wishes_of((4, 5, 1, 2), (5, 0, 4), (3, 0, 5), (5, 4, 2), (1, 3, 5, 0), (0, 1, 3, 2, 4)), (0, 1, 2, 4, 5), (4, 5, 2, 3, 0, 1), 3,
        ((3, 5), (3, 4), (0, 5), (1, 0), (1, 4), (3, 2)), "single", (0, 1, 3),
    ),
)


def askings_by_words(wishes, here, parting, person):
    hold = {}
    for ring in naive.rings(parting):
        for at, one in enumerate(ring):
            hold[one] = ring[at - 1] if len(ring) % 2 else ring[at ^ 1]
        if len(ring) == 1:
            hold[ring[0]] = None
    on_odd = [one for ring in naive.odd_rings(parting) for one in ring]
    here = set(here) | {person}
    row, freed, free, let_go_by = [], [person], person, None
    while True:
        some = wishes.lists[free]
        behind = 0 if let_go_by is None else some.index(let_go_by) + 1
        taker = None
        for other in some[behind:]:
            if other in here and taker is None:
                row.append((free, other))
                if naive.rather(wishes, other, free, hold[other]):
                    taker = other
        if taker is None:
            return tuple(row), "alone", tuple(sorted(set(freed)))
        if taker in freed:
            return tuple(row), "ring", tuple(sorted(set(freed)))
        if hold[taker] is None:
            return tuple(row), "single", tuple(sorted(set(freed)))
        if taker in on_odd:
            return tuple(row), "broken", tuple(sorted(set(freed)))
        gone = hold[taker]
        hold[taker], hold[free] = free, taker
        free, let_go_by = gone, taker
        freed.append(gone)


class ArrivalsTest(unittest.TestCase):
    def test_ordinary(self):
        for wishes, here, parting, person, row, end, freed in ROWS:
            self.assertTrue(is_parting_among(wishes, here, parting))
            told = (wishes, here, parting, person)
            self.assertEqual(coming_row(*told), row)
            self.assertEqual(coming_end(*told), end)
            self.assertEqual(freed_persons(*told), freed)
            self.assertIs(is_coming_row(*told, row), True)
        self.assertEqual(coming_row(wishes=FOUR, here=(2,), parting=(0, 1, 2, 3), person=3), ((3, 2),))
        self.assertEqual(coming_end(wishes=FOUR, here=(2,), parting=(0, 1, 2, 3), person=3), "single")
        self.assertEqual(freed_persons(wishes=FOUR, here=(2,), parting=(0, 1, 2, 3), person=3), (3,))
        self.assertIs(is_coming_row(wishes=FOUR, here=(2,), parting=(0, 1, 2, 3), person=3, value=()), False)

    def test_one_alone_and_nobody(self):
        self.assertEqual(coming_row(wishes_of(()), (), (0,), 0), ())
        self.assertEqual(coming_end(wishes_of(()), (), (0,), 0), "alone")
        self.assertEqual(freed_persons(wishes_of(()), (), (0,), 0), (0,))
        nobody = wishes_of(*[()] * 60)
        self.assertEqual(coming_row(nobody, tuple(range(59)), tuple(range(60)), 59), ())
        self.assertEqual(coming_end(nobody, tuple(range(59)), tuple(range(60)), 59), "alone")

    def test_against_the_words(self):
        ends, again, longer = [], 0, 0
        for wishes in many_wishes(67, 160, 6, 2) + [squares(1), FOUR, FIVE, round_rings(5), round_rings(4, 2), ring_wishes(6)]:
            pairs = naive.pairs(wishes)
            for here in naive.lots(naive.persons(wishes)):
                for parting in lasting_partings(wishes_among(wishes, here)):
                    for person in set(naive.persons(wishes)) - set(here):
                        told = (wishes, here, parting, person)
                        row, end, freed = askings_by_words(*told)
                        self.assertEqual((coming_row(*told), coming_end(*told), freed_persons(*told)), (row, end, freed))
                        ends.append(end)
                        self.check_italics(row, [pair for pair in pairs if set(pair) <= set(here) | {person}])
                        changes = [row[at][0] for at in range(len(row)) if at == 0 or row[at][0] != row[at - 1][0]]
                        again += len(set(changes)) < len(changes)
                        longer += any(len(ring) > 2 and len(ring) % 2 == 0 for ring in naive.rings(parting))
        for end in ("ring", "single", "broken", "alone"):
            self.assertGreater(ends.count(end), 100)
        self.assertGreater(again, 20)
        self.assertGreater(longer, 20)

    def check_italics(self, row, pairs):
        """No two persons are asker and asked twice, either way, but at the last asking."""
        met = [(min(pair), max(pair)) for pair in row[:-1]]
        self.assertEqual(len(set(met)), len(met))
        self.assertLessEqual(len(row), len(pairs))

    def test_any_values(self):
        for wishes, here, parting, person, row, _, _ in ROWS[:6]:
            for value in zoo():
                self.assertIs(is_coming_row(wishes, here, parting, person, value), type(value) is tuple and not value and not row)
            for value in wrong_forms(row):
                self.assertIs(is_coming_row(wishes, here, parting, person, value), is_plain(value) and value == row)
        told = (FOUR, (0, 1), (1, 0, 2, 3), 2)
        for value in (((2, False), (2, 1), (0, 2)), ((2, 0), (2, True), (0, 2)), ((2, 0), (2, 1)), ((2, 0), (2, 1), (0, 2), (0, 2)),
                      [(2, 0), (2, 1), (0, 2)], ([2, 0], [2, 1], [0, 2]), ((0, 2), (1, 2), (2, 0)), ((2, 0), (2, 1), (0, 2.0))):
            self.assertIs(is_coming_row(*told, value), False, value)

    def test_sixty_persons(self):
        for wishes in sixties():
            for person in (0, 31, 59):
                here = tuple(other for other in range(60) if other != person)
                parting = parting_of(wishes_among(wishes, here))
                row, end, freed = askings_by_words(wishes, here, parting, person)
                self.assertEqual(coming_row(wishes, here, parting, person), row)
                self.assertEqual(coming_end(wishes, here, parting, person), end)
                self.assertEqual(freed_persons(wishes, here, parting, person), freed)
                self.assertIs(is_coming_row(wishes, here, parting, person, row), True)


if __name__ == "__main__":
    unittest.main()
