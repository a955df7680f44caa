"""The examples of the document, word for word."""

import doctest
import os
import unittest

# All examples of a chapter go on from one another.
CHAPTERS = {
    "1. Overview": """
    >>> from lastpairs.reader import read_wishes
    >>> from lastpairs.partings import odd_rings, parting_of
    >>> wishes = read_wishes("ann: bob cid\\nbob: cid ann\\ncid: ann bob")
    >>> parting_of(wishes), odd_rings(wishes)
    ((1, 2, 0), ((0, 1, 2),))
    """,
    "3. Wishes": """
    >>> from lastpairs.remade import pieces_in, renamed_wishes
    >>> from lastpairs.sides import sides_or_ring
    >>> from lastpairs.wishes import Wishes, best_of, rank_of
    >>> wishes = Wishes(("fir", "lark", "moss", "wren"), ((1, 2), (2, 0), (0, 1), ()))
    >>> rank_of(wishes, 1, 0), rank_of(wishes, 1, None), best_of(wishes, 2, (1, 3)), pieces_in(wishes)
    (1, 2, 1, ((0, 1, 2), (3,)))
    >>> renamed_wishes(wishes, ("d", "c", "b", "a"))[0].lists
    ((), (3, 2), (1, 3), (2, 1))
    >>> sides_or_ring(Wishes(("ash", "bee", "elm", "owl"), ((1, 3), (2, 0), (1,), (0,))))
    ('sides', (0, 1, 0, 1))
    """,
    "4. Texts": """
    >>> from lastpairs.reader import read_pairing, read_parting, read_wishes
    >>> wishes = read_wishes("moss: fir lark\\nfir: lark moss\\n\\nwren:\\nlark: moss fir")
    >>> wishes.names, wishes.lists
    (('fir', 'lark', 'moss', 'wren'), ((1, 2), (2, 0), (0, 1), ()))
    >>> read_pairing(wishes, "moss fir"), read_parting(wishes, "lark moss fir"), read_parting(wishes, "")
    (((0, 2),), (1, 2, 0, 3), (0, 1, 2, 3))
    >>> from lastpairs.printer import show_pairing, show_parting, show_wishes
    >>> show_wishes(wishes), show_pairing(wishes, ((0, 2),)), show_parting(wishes, (1, 2, 0, 3))
    ('fir: lark moss\\nlark: moss fir\\nmoss: fir lark\\nwren:', 'fir moss', 'fir lark moss')
    """,
    "5. Meaning": """
    >>> from lastpairs.between import gainers, rings_between
    >>> from lastpairs.plain import blocking_pairs, lasting_pairings
    >>> from lastpairs.wishes import Wishes
    >>> wishes = Wishes(("a", "b", "c", "d", "e"), ((1, 3), (2, 0), (3, 1), (0, 2, 4), (3,)))
    >>> lasting_pairings(wishes), blocking_pairs(wishes, ((0, 1), (3, 4)))
    ((((0, 1), (2, 3)), ((0, 3), (1, 2))), ((1, 2), (2, 3)))
    >>> rings_between(((0, 1), (2, 3)), ((0, 3), (1, 2))), gainers(wishes, ((0, 1), (2, 3)), ((0, 3), (1, 2)))
    (((0, 1, 2, 3),), (0, 2))
    >>> from lastpairs.plainpartings import barring_pairs, lasting_partings, rings_of
    >>> odd = Wishes(("a", "b", "c", "d"), ((1, 2), (2, 0), (0, 1, 3), (2,)))
    >>> lasting_partings(odd), rings_of((1, 2, 0, 3)), barring_pairs(odd, (1, 0, 3, 2))
    (((1, 2, 0, 3),), ((0, 1, 2), (3,)), ((1, 2),))
    >>> from lastpairs.plainpartings import split_ring
    >>> split_ring((1, 2, 3, 0, 4), 0), split_ring((1, 2, 3, 0, 4), 1)
    ((1, 0, 3, 2, 4), (3, 2, 1, 0, 4))
    """,
    "6. Proposals": """
    >>> from lastpairs.left import firsts_left, is_steady, left_lists
    >>> from lastpairs.proposals import asked_once, asked_out, askers
    >>> from lastpairs.wishes import Wishes
    >>> wishes = Wishes(("a", "b", "c", "d", "e"), ((1, 3), (2, 0), (3, 1), (0, 2, 4), (3,)))
    >>> asked_out(wishes), left_lists(wishes, (3, 0, 1, 2, None)), firsts_left(wishes, (None, None, None, 0, None))
    ((3, 0, 1, 2, None), ((1, 3), (2, 0), (3, 1), (0, 2), ()), (1, 2, 1, 0, None))
    >>> askers(wishes, (None, None, None, 0, None)), asked_once(wishes, (None, None, None, 4, None), 0)
    ((1, 2, 3), (None, 0, None, 4, None))
    >>> from lastpairs.askpapers import ends_left, is_barring_asks
    >>> from lastpairs.sidepairs import side_pairing
    >>> ends_left(wishes), is_barring_asks(wishes, 3, 4, (0, 2))
    (((1, 3), (2, 0), (3, 1), (0, 2), None), True)
    >>> side_pairing(wishes, (0, 1, 0, 1, 0), 0), side_pairing(wishes, (0, 1, 0, 1, 0), 1)
    (((0, 1), (2, 3)), ((0, 3), (1, 2)))
    """,
    "7. Rings turned out": """
    >>> from lastpairs.proposals import asked_out
    >>> from lastpairs.turnrings import turn_rings, turned_out
    >>> from lastpairs.wishes import Wishes
    >>> wishes = Wishes(("a", "b", "c", "d"), ((1, 3, 2), (2, 0, 3), (3, 1, 0), (0, 2, 1)))
    >>> asked_out(wishes), turn_rings(wishes, (3, 0, 1, 2))
    ((3, 0, 1, 2), (((0, 1), (2, 3)), ((1, 2), (3, 0))))
    >>> turned_out(wishes, (3, 0, 1, 2), ((0, 1), (2, 3)))
    (3, 2, 1, 0)
    >>> from lastpairs.turningout import solved
    >>> solved(Wishes(("a", "b", "c", "d"), ((1, 2, 3), (2, 0, 3), (0, 1, 3), (0, 1, 2))))
    ('ring', (0, 1, 2), (1, 2, 0, 3))
    """,
    "8. Partings": """
    >>> from lastpairs.partings import odd_rings, parting_of, single_persons
    >>> from lastpairs.wishes import Wishes
    >>> wishes = Wishes(("a", "b", "c", "d"), ((1, 2, 3), (2, 0, 3), (0, 1, 3), (0, 1, 2)))
    >>> parting_of(wishes), odd_rings(wishes), single_persons(wishes)
    ((1, 2, 0, 3), ((0, 1, 2),), (3,))
    >>> from lastpairs.neighbours import blocking_neighbours
    >>> blocking_neighbours(wishes, (1, 2, 0, 3), ((0, 1), (2, 3))), blocking_neighbours(wishes, (1, 2, 0, 3), ((0, 2),))
    (((1, 2),), ((0, 1),))
    >>> from lastpairs.halves import are_lasting_halves, halves_of
    >>> halves_of((1, 2, 0, 3)), are_lasting_halves(wishes, ((0, 1, 2), (2, 3, 2)))
    (((0, 1, 1), (0, 2, 1), (1, 2, 1)), False)
    """,
    "9. All turns": """
    >>> from lastpairs.firm import firm_rings, held_by, turned_over
    >>> from lastpairs.wishes import Wishes
    >>> wishes = Wishes(("a", "b", "c", "d"), ((1, 3), (2, 0), (3, 1), (0, 2)))
    >>> firm_rings(wishes, (3, 0, 1, 2)), turned_over((3, 0, 1, 2), ((0, 1), (2, 3))), held_by((3, 0, 1, 2))
    ((((0, 1), (2, 3)), ((1, 2), (3, 0))), (3, 2, 1, 0), (1, 2, 3, 0))
    >>> from lastpairs.turns import all_turns, holds_of_turns, opposite_turn
    >>> opposite_turn(((0, 1), (2, 3))), all_turns(wishes)
    (((1, 2), (3, 0)), (((0, 1), (2, 3)), ((1, 2), (3, 0))))
    >>> from lastpairs.turnkinds import free_turns, odd_turns, sure_turns
    >>> free_turns(wishes), odd_turns(Wishes(("a", "b", "c"), ((1, 2), (2, 0), (0, 1)))), holds_of_turns(wishes, (((0, 1), (2, 3)),))
    ((((0, 1), (2, 3)), ((1, 2), (3, 0))), (((0, 1), (1, 2), (2, 0)),), (3, 2, 1, 0))
    """,
    "10. The order of turns": """
    >>> from lastpairs.closedlots import closed_with, turns_next
    >>> from lastpairs.completelots import complete_lots, lot_of_pairing, pairings_by_lots
    >>> from lastpairs.order import lean_pairs
    >>> from lastpairs.wishes import Wishes
    >>> wishes = Wishes(("a", "b", "c", "d"), ((1, 3), (2, 0), (3, 1), (0, 2)))
    >>> lean_pairs(wishes), turns_next(wishes, ()), pairings_by_lots(wishes)
    ((), (((0, 1), (2, 3)), ((1, 2), (3, 0))), (((0, 1), (2, 3)), ((0, 3), (1, 2))))
    >>> from lastpairs.exchanging import exchange_row, pairings_beside
    >>> complete_lots(wishes), lot_of_pairing(wishes, ((0, 1), (2, 3)))
    (((((0, 1), (2, 3)),), (((1, 2), (3, 0)),)), (((1, 2), (3, 0)),))
    >>> pairings_beside(wishes, ((0, 1), (2, 3)))
    (((0, 3), (1, 2)),)
    """,
    "11. Counted": """
    >>> from lastpairs.counted import choices_in, count_pairings, count_with
    >>> from lastpairs.numbered import lot_after, lot_at, pairing_at
    >>> from lastpairs.wishes import Wishes
    >>> wishes = Wishes(("a", "b", "c", "d"), ((1, 3), (2, 0), (3, 1), (0, 2)))
    >>> choices_in(wishes), count_pairings(wishes), count_with(wishes, (((0, 1), (2, 3)),))
    (((((0, 1), (2, 3)), ((1, 2), (3, 0))),), 2, 1)
    >>> pairing_at(wishes, 0), lot_after(wishes, lot_at(wishes, 1))
    (((0, 3), (1, 2)), None)
    >>> from lastpairs.paircounts import pair_counts, sure_pairs
    >>> sorted(pair_counts(wishes).items())[:2], sure_pairs(Wishes(("a", "b"), ((1,), (0,))))
    ([((0, 1), 1), ((0, 3), 1)], ((0, 1),))
    """,
    "12. Asked": """
    >>> from lastpairs.asked import asked
    >>> from lastpairs.turnviews import chain_of, turn_with
    >>> from lastpairs.wishes import Wishes
    >>> wishes = Wishes(("a", "b", "c", "d"), ((1, 3), (2, 0), (3, 1), (0, 2)))
    >>> chain_of(wishes, 0), turn_with(wishes, 0, 1), turn_with(wishes, 0, 3)
    ((1, 3), ((0, 1), (2, 3)), None)
    >>> asked(wishes, (("best", 1, 0),)), asked(wishes, (("with", 0, 1), ("best", 1, 0))), asked(wishes, (("either", 0, 2, 0, 3),))
    (((0, 3), (1, 2)), None, ((0, 3), (1, 2)))
    """,
    "13. Middles": """
    >>> from lastpairs.middles import difference, middle_pairing
    >>> from lastpairs.plain import lasting_pairings
    >>> from lastpairs.wishes import Wishes
    >>> wishes = Wishes(("a", "b", "c", "x", "y", "z"), ((3, 4, 5), (4, 5, 3), (5, 3, 4), (1, 2, 0), (2, 0, 1), (0, 1, 2)))
    >>> told = lasting_pairings(wishes)
    >>> told
    (((0, 3), (1, 4), (2, 5)), ((0, 4), (1, 5), (2, 3)), ((0, 5), (1, 3), (2, 4)))
    >>> middle_pairing(wishes, told) == told[1], difference(wishes, told[0], told[2])
    (True, 12)
    >>> from lastpairs.betweens import all_between, steps_between, way_between
    >>> steps_between(wishes, told[0], told[2]), way_between(wishes, told[2], told[0]) == told[::-1], len(all_between(wishes, told[0], told[1]))
    (2, True, 2)
    >>> from lastpairs.levels import level_pairing
    >>> level_pairing(wishes, (0, 0, 0, 1, 1, 1), (told[2], told[0]), 0), level_pairing(wishes, (0, 0, 0, 1, 1, 1), (told[2], told[0]), 1) == told[2]
    (((0, 3), (1, 4), (2, 5)), True)
    """,
    "14. Best": """
    >>> from lastpairs.bounds import cut_wishes, within_paper
    >>> from lastpairs.limits import bounds_of_limits, lasting_in_order, possible_ranks
    >>> from lastpairs.wishes import Wishes
    >>> wishes = Wishes(("a", "b", "c", "d"), ((1, 3), (2, 0), (3, 1), (0, 2)))
    >>> within_paper(wishes, (0, None, None, None)), within_paper(wishes, (0, 0, None, None))
    (('within', ((0, 1), (2, 3))), ('barred', (0, 1, 3, 2)))
    >>> cut_wishes(wishes, (0, 0, None, None)).lists
    ((), (2,), (3, 1), (2,))
    >>> bounds_of_limits(wishes, ((1, 1), None, None, None)), possible_ranks(wishes, 0)
    ((1, 0, None, None), (0, 1))
    >>> lasting_in_order(wishes, (1, 0, 2, 3), 2)
    (((0, 3), (1, 2)), ((0, 1), (2, 3)))
    """,
    "15. Comes and goes": """
    >>> from lastpairs.arrivals import coming_end, coming_row
    >>> from lastpairs.mended import changed_part, parting_with
    >>> from lastpairs.wishes import Wishes
    >>> wishes = Wishes(("a", "b", "c", "d"), ((1, 2, 3), (2, 0, 3), (0, 1, 3), (0, 1, 2)))
    >>> coming_row(wishes, (0, 1), (1, 0, 2, 3), 2), coming_end(wishes, (0, 1), (1, 0, 2, 3), 2)
    (((2, 0), (2, 1), (0, 2)), 'ring')
    >>> parting_with(wishes, (0, 1), (1, 0, 2, 3), 2), changed_part(wishes, (0, 1, 2), 3)
    ((1, 2, 0, 3), ('more', (3,)))
    """,
    "16. Nearly": """
    >>> from lastpairs.asides import aside_pairing, asides_of
    >>> from lastpairs.calm import is_calm, most_calm
    >>> from lastpairs.wishes import Wishes
    >>> wishes = Wishes(("elm", "fir", "oak", "yew"), ((1, 2, 3), (2, 0, 3), (0, 1, 3), (0, 1, 2)))
    >>> most_calm(wishes), asides_of((1, 2, 0, 3)), aside_pairing((1, 2, 0, 3), (0,))
    (1, ((0,), (1,), (2,)), ((1, 2),))
    >>> is_calm(wishes, ((0, 1),)), is_calm(wishes, ((0, 1), (2, 3)))
    (True, False)
    >>> from lastpairs.away import fewest_away, least_aways, others_pairing
    >>> fewest_away(wishes), least_aways(wishes), others_pairing(wishes, (2,))
    (1, ((0,), (1,), (2,)), ((0, 1),))
    """,
    "17. The desk": """
    >>> from lastpairs.desk import Desk, start_desk
    >>> from lastpairs.disk import Disk, cut_cells
    >>> from lastpairs.reader import read_wishes
    >>> disk = Disk((0,) * 600)
    >>> desk = start_desk(disk, read_wishes("ann: bob\\nbob: ann cid\\ncid: bob"))
    >>> desk.settle(), desk.do(("come", "bea", ((0, 0), (2, 1))))
    (('settle', ((0, 1),)), ('come', 'bea', ((0, 0), (2, 1))))
    >>> Desk(Disk(tuple([disk.look(at) for at in range(600)]))).lodging.pairing, desk.settle()
    (((0, 2),), ('settle', ((0, 1), (2, 3))))
    >>> cut_cells((5, 6, 7, 8), ((1, 9), None, (2, 3), (0, 4)), (77, 0))
    (77, 9, 0, 8)
    """,
    "18. Runs and claims": """
    >>> from lastpairs.lodgings import Lodging
    >>> from lastpairs.reader import read_wishes
    >>> from lastpairs.runs import run_script
    >>> lodging = Lodging(read_wishes("ann: bob cid\\nbob: cid ann\\ncid: ann bob"), ())
    >>> run_script(lodging, "settle\\ncalm\\ncome dan ann 0\\nsettle\\nleft ann bob\\njoin ann bob")
    ('barred ann bob cid', 'calm 1', 'did', 'settled ann dan, bob cid', 'never', 'refused')
    """,
}


class ExamplesTest(unittest.TestCase):
    def test_examples(self):
        parser = doctest.DocTestParser()
        for chapter, text in CHAPTERS.items():
            runner = doctest.DocTestRunner(verbose=False)
            test = parser.get_doctest(text, {}, chapter, None, 0)
            self.assertTrue(test.examples)
            told = []
            runner.run(test, out=told.append)
            self.assertEqual(runner.failures, 0, "".join(told))

    def test_the_readme(self):
        readme = os.path.join(os.path.dirname(os.path.dirname(os.path.abspath(__file__))), "README.md")
        self.assertEqual(doctest.testfile(readme, module_relative=False).failed, 0)


if __name__ == "__main__":
    unittest.main()
