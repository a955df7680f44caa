"""Points 1 and 4: what holds for everything: kinds of results, arguments left alone, equal results."""

import unittest

from lastpairs import alltables, askpapers, between, left, lexer, middles, plain, plainpartings, proposals, remade
from lastpairs import sides, turnrings, wishes as wishes_module
from lastpairs.disk import Disk
from lastpairs.journal import Journal
from lastpairs.lodgings import Lodging, lodging_after
from lastpairs.wishes import Wishes
from tests.helpers import is_plain, many_wishes, squares

# What takes wishes alone and returns tuples of tuples and numbers.
OF_WISHES = (
    wishes_module.ranks_in, wishes_module.pairs_in, remade.pieces_in, sides.sides_or_ring, plain.all_pairings,
    plain.lasting_pairings, plainpartings.lasting_partings, proposals.asked_out, proposals.left_single, askpapers.ends_left,
    alltables.steady_tables,
)
OF_HOLDS = (
    left.left_lists, left.firsts_left, left.held_ranks, proposals.askers, turnrings.turn_rings, turnrings.good_rings,
)


class BasicsTest(unittest.TestCase):
    def test_results_are_tuples_and_the_same_each_time(self):
        for wishes in many_wishes(4, 30, 6):
            again = Wishes(tuple(list(wishes.names)), tuple(tuple(list(some)) for some in wishes.lists))
            for call in OF_WISHES:
                result = call(wishes)
                self.assertIs(type(result), tuple)
                self.assertTrue(is_plain(result))
                self.assertEqual(call(again), result)
                self.assertEqual(call(wishes=wishes), result)
            holds = proposals.asked_out(wishes)
            for call in OF_HOLDS:
                self.assertIs(type(call(wishes, holds)), tuple)
                self.assertTrue(is_plain(call(wishes, holds)))
                self.assertEqual(call(again, tuple(list(holds))), call(wishes, holds))
            self.assertEqual(wishes, again)

    def test_what_else_returns_tuples(self):
        wishes = squares(1)
        one, other = plain.lasting_pairings(wishes)
        for result in (
            lexer.marks_of("a:"), between.rings_between(one, other), between.gainers(wishes, one, other), plain.single_in(wishes, one),
            plain.blocking_pairs(wishes, ()), middles.middle_pairing(wishes, (one,)), plainpartings.before_in((1, 0)),
            plainpartings.rings_of((1, 0)), plainpartings.turned_persons(wishes, (1, 2, 3, 0)),
            plainpartings.barring_pairs(wishes, (1, 2, 3, 0)), plainpartings.paired_parting(wishes, one),
            plainpartings.split_ring((1, 0), 0), proposals.holds_behind(wishes, (0,)), proposals.askers_by(wishes, (0, 1, 2, 3)),
            remade.piece_of(wishes, 0), remade.renamed_wishes(wishes, wishes.names)[1], alltables.rings_to(wishes, (3, 0, 1, 2), (1, 0, 3, 2)),
            Disk((0,)).events(), Journal(Disk((0,))).records(),
        ):
            self.assertIs(type(result), tuple)
            self.assertTrue(is_plain(result))

    def test_objects_do_not_change(self):
        wishes = squares(1)
        names, lists = wishes.names, wishes.lists
        lodging = Lodging(wishes, ((0, 1),))
        for deed in (("come", "zz", ((0, 0),)), ("go", 1), ("list", 0, (3, 1)), ("part", 0, 1), ("meet", 0, 2, 0, 0), ("join", 2, 3)):
            lodging_after(lodging, deed)
        self.assertIs(lodging.wishes, wishes)
        self.assertEqual(lodging.pairing, ((0, 1),))
        self.assertEqual((wishes.names, wishes.lists), (names, lists))

    def test_lists_that_are_changed_later(self):
        order = [3, 2, 1, 0]
        row = proposals.askers_by(squares(1), order)
        order.clear()
        self.assertEqual(row, proposals.askers_by(squares(1), (3, 2, 1, 0)))


if __name__ == "__main__":
    unittest.main()
