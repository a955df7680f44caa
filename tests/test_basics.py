"""Points 1 and 4: what holds for everything: kinds of results, arguments left alone, equal results."""

import unittest

from lastpairs import alltables, among, arrivals, asides, askpapers, away, between, betweens, bounds, calm, compared, couples
from lastpairs import firm, halves, left, lexer, levels, middles, neighbours, order, partings, plain, plainpartings, proposals
from lastpairs import remade, settlings, sidepairs, sides, turningout, turnrings, turns, wishes as wishes_module
from lastpairs.disk import Disk
from lastpairs.journal import Journal
from lastpairs.lodgings import Lodging, lodging_after
from lastpairs.wishes import Wishes
from tests.helpers import is_plain, many_wishes, squares

# What takes wishes alone and returns tuples of tuples and numbers.
OF_WISHES = (
    wishes_module.ranks_in, wishes_module.pairs_in, remade.pieces_in, sides.sides_or_ring, plain.all_pairings,
    plain.lasting_pairings, plainpartings.lasting_partings, proposals.asked_out, proposals.left_single, askpapers.ends_left,
    alltables.steady_tables, turningout.solved, partings.parting_of, partings.odd_rings, partings.single_persons, firm.firm_holds,
    turns.whole_row, turns.all_turns, order.lean_pairs, order.need_pairs, asides.great_calm_pairing, away.least_aways,
)
OF_HOLDS = (
    left.left_lists, left.firsts_left, left.held_ranks, proposals.askers, turnrings.turn_rings, turnrings.good_rings,
    turningout.turning_row, turningout.last_holds, turningout.parting_by_holds, firm.firm_rings, turns.turns_of,
)


class BasicsTest(unittest.TestCase):
    def test_results_are_tuples_and_the_same_each_time(self):
        for wishes in many_wishes(4, 30, 6):
            again = Wishes(tuple(list(wishes.names)), tuple(tuple(list(some)) for some in wishes.lists))
            for call in OF_WISHES:
                result = call(wishes)
                self.assertIs(type(result), tuple)
                self.assertTrue(is_plain(result))
                self.assertEqual(call(again), result)
                self.assertEqual(call(wishes=wishes), result)
            holds = proposals.asked_out(wishes)
            for call in OF_HOLDS:
                self.assertIs(type(call(wishes, holds)), tuple)
                self.assertTrue(is_plain(call(wishes, holds)))
                self.assertEqual(call(again, tuple(list(holds))), call(wishes, holds))
            self.assertEqual(wishes, again)

    def test_what_else_returns_tuples(self):
        wishes = squares(1)
        one, other = plain.lasting_pairings(wishes)
        for result in (
            lexer.marks_of("a:"), between.rings_between(one, other), between.gainers(wishes, one, other), plain.single_in(wishes, one),
            plain.blocking_pairs(wishes, ()), middles.middle_pairing(wishes, (one,)), plainpartings.before_in((1, 0)),
            plainpartings.rings_of((1, 0)), plainpartings.turned_persons(wishes, (1, 2, 3, 0)),
            plainpartings.barring_pairs(wishes, (1, 2, 3, 0)), plainpartings.paired_parting(wishes, one),
            plainpartings.split_ring((1, 0), 0), proposals.holds_behind(wishes, (0,)), proposals.askers_by(wishes, (0, 1, 2, 3)),
            remade.piece_of(wishes, 0), remade.renamed_wishes(wishes, wishes.names)[1], alltables.rings_to(wishes, (3, 0, 1, 2), (1, 0, 3, 2)),
            Disk((0,)).events(), Journal(Disk((0,))).records(), sidepairs.side_pairing(wishes, (0, 1, 0, 1), 0),
            compared.edges_of((1, 0)), compared.risen_pairs(wishes, (1, 0, 3, 2), (3, 2, 1, 0)), firm.held_by((1, 0)),
            couples.neighbour_couples(wishes, (1, 0, 3, 2), one), firm.turned_over((3, 0, 1, 2), ((0, 1), (2, 3))),
            levels.level_pairing(wishes, (0, 1, 0, 1), (one, other), 0), turningout.holds_behind_rings(wishes, (3, 0, 1, 2), ()),
            turningout.holds_by_parting((1, 0)), among.odd_parts((0,), (0, 1)), halves.halves_of((1, 0)),
            halves.parting_by_halves(wishes, ((0, 1, 2), (2, 3, 2))), neighbours.blocking_neighbours(wishes, (1, 0, 3, 2), ()),
            neighbours.strays(wishes, (1, 0, 3, 2), ()), partings.odd_rings_in((1, 2, 0)), partings.single_in_parting((0, 1)),
            partings.split_parting((1, 0)), partings.pairing_by((1, 0)), turns.opposite_turn(((0, 1), (2, 3))),
            turns.holds_of_turns(wishes, ()), arrivals.coming_row(wishes, (0, 1, 2), (1, 0, 2, 3), 3),
            arrivals.freed_persons(wishes, (0, 1, 2), (1, 0, 2, 3), 3), asides.asides_of((1, 2, 0)),
            asides.aside_pairing((1, 2, 0), (0,)), asides.calmest_aside(wishes, (1, 0, 3, 2)), away.others_pairing(wishes, (0,)),
            betweens.all_between(wishes, one, other), betweens.way_between(wishes, one, other), bounds.ranks_of_pairing(wishes, ()),
            bounds.within_paper(wishes, (None,) * 4), calm.paired_persons(one), calm.calm_blocks(wishes, one),
            order.need_chain(wishes, turns.all_turns(wishes)[0], turns.all_turns(wishes)[0]), settlings.settling(Lodging(wishes, ())),
        ):
            self.assertIs(type(result), tuple)
            self.assertTrue(is_plain(result))

    def test_objects_do_not_change(self):
        wishes = squares(1)
        names, lists = wishes.names, wishes.lists
        lodging = Lodging(wishes, ((0, 1),))
        for deed in (("come", "zz", ((0, 0),)), ("go", 1), ("list", 0, (3, 1)), ("part", 0, 1), ("meet", 0, 2, 0, 0), ("join", 2, 3)):
            lodging_after(lodging, deed)
        self.assertIs(lodging.wishes, wishes)
        self.assertEqual(lodging.pairing, ((0, 1),))
        self.assertEqual((wishes.names, wishes.lists), (names, lists))

    def test_lists_that_are_changed_later(self):
        order = [3, 2, 1, 0]
        row = proposals.askers_by(squares(1), order)
        order.clear()
        self.assertEqual(row, proposals.askers_by(squares(1), (3, 2, 1, 0)))


if __name__ == "__main__":
    unittest.main()
