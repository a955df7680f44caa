"""The names, places and parameters of what the document's interface lists."""

import ast
import importlib
import inspect
import unittest

from tests.test_language import files, text_of

FUNCTIONS = {
    "printer": ["show_wishes(wishes)", "show_pairing(wishes, pairing)", "show_parting(wishes, parting)"],
    "disk": ["pending_places(events)", "cut_cells(cells, events, octets)"],
    "lexer": ["marks_of(text)"],
    "wishes": [
        "person_number(wishes, name)", "is_wished(wishes, person, other)", "rank_of(wishes, person, other)",
        "would_rather(wishes, person, one, other)", "ranks_in(wishes)", "best_of(wishes, person, some)",
        "worst_of(wishes, person, some)", "pairs_in(wishes)",
    ],
    "commands": ["is_command(value)", "read_commands(text)", "show_command(command)", "show_commands(commands)"],
    "left": [
        "are_holds(wishes, value)", "left_lists(wishes, holds)", "left_wishes(wishes, holds)",
        "firsts_left(wishes, holds)", "is_steady(wishes, value)", "are_within(wishes, one, other)",
    ],
    "plain": [
        "check_pairing(wishes, value)", "partner_of(pairing, person)", "single_in(wishes, pairing)",
        "all_pairings(wishes)", "blocking_pairs(wishes, pairing)", "is_lasting(wishes, pairing)",
        "lasting_pairings(wishes)",
    ],
    "remade": [
        "both_ways(names, lists)", "with_persons(wishes, persons)", "without_persons(wishes, persons)",
        "without_pairs(wishes, pairs)", "with_list(wishes, person, some)", "renamed_wishes(wishes, names)",
        "piece_of(wishes, person)", "pieces_in(wishes)",
    ],
    "sides": ["sides_or_ring(wishes)", "are_sides(wishes, value)", "is_odd_ring(wishes, value)", "is_two_sided(wishes)"],
    "between": ["rings_between(one, other)", "gainers(wishes, one, other)"],
    "conditions": [
        "is_condition(wishes, value)", "is_question(wishes, value)", "meets(wishes, pairing, condition)",
        "answers_all(wishes, pairing, question)",
    ],
    "lodgings": [
        "is_lodging(value)", "is_deed(lodging, value)", "lodging_after(lodging, deed)",
        "lodging_after_all(lodging, deeds)",
    ],
    "middles": [
        "middle_pairing(wishes, pairings)", "is_middle(wishes, pairings, value)", "difference(wishes, one, other)",
    ],
    "plainpartings": [
        "check_parting(wishes, value)", "before_in(parting)", "rings_of(parting)", "turned_persons(wishes, parting)",
        "barring_pairs(wishes, parting)", "is_lasting_parting(wishes, parting)", "lasting_partings(wishes)",
        "paired_parting(wishes, pairing)", "split_ring(parting, person)",
    ],
    "proposals": [
        "askers(wishes, holds)", "asked_once(wishes, holds, person)", "holds_behind(wishes, row)",
        "is_asking(wishes, value)", "askers_by(wishes, order)", "asked_out(wishes)", "left_single(wishes)",
    ],
    "reader": [
        "read_wishes(text)", "read_pairing(wishes, text)", "read_parting(wishes, text)", "completed_wishes(text)",
        "completed_pairing(wishes, text)", "completed_parting(wishes, text)",
    ],
    "turnrings": [
        "giver_behind(wishes, holds, person)", "turn_from(wishes, holds, person)", "turn_rings(wishes, holds)",
        "is_turn_ring(wishes, holds, value)", "is_odd_turn(wishes, holds, ring)", "turned_out(wishes, holds, ring)",
        "good_rings(wishes, holds)",
    ],
    "alltables": ["steady_tables(wishes)", "rings_to(wishes, holds, aim)"],
    "askpapers": [
        "ends_left(wishes)", "can_still_be(wishes, person, other)", "barring_asks(wishes, person, other)",
        "is_barring_asks(wishes, person, other, value)",
    ],
    "compared": ["edges_of(parting)", "risen_pairs(wishes, one, other)"],
    "couples": ["neighbour_couples(wishes, parting, pairing)"],
    "firm": [
        "is_firm(wishes, value)", "held_by(holds)", "firm_holds(wishes)", "second_of(wishes, holds, person)",
        "firm_rings(wishes, holds)", "turned_over(holds, ring)",
    ],
    "judge": ["parting_fault(wishes, value)", "is_parting(wishes, value)"],
    "levels": ["level_pairing(wishes, sides, pairings, place)"],
    "sidepairs": ["side_pairing(wishes, sides, side)"],
    "turningout": [
        "turning_row(wishes, holds)", "last_holds(wishes, holds)", "holds_behind_rings(wishes, holds, row)",
        "is_turning_row(wishes, holds, value)", "parting_by_holds(wishes, holds)", "holds_by_parting(parting)", "solved(wishes)",
    ],
    "among": ["wishes_among(wishes, here)", "is_parting_among(wishes, here, value)", "odd_parts(here, parting)"],
    "halves": [
        "halves_of(parting)", "are_halves(wishes, value)", "are_lasting_halves(wishes, value)", "parting_by_halves(wishes, halves)",
    ],
    "neighbours": [
        "blocking_neighbours(wishes, parting, pairing)", "is_unblocked_beside(wishes, parting, pairing)",
        "strays(wishes, parting, pairing)",
    ],
    "partings": [
        "parting_of(wishes)", "odd_rings_in(parting)", "single_in_parting(parting)", "odd_rings(wishes)", "single_persons(wishes)",
        "barring_ring(wishes)", "split_parting(parting)", "pairing_by(parting)", "lasting_pairing(wishes)",
    ],
    "turns": [
        "whole_row(wishes)", "is_whole_row(wishes, value)", "all_turns(wishes)", "opposite_turn(ring)", "turns_of(wishes, holds)",
        "holds_of_turns(wishes, turns)",
    ],
    "arrivals": [
        "coming_row(wishes, here, parting, person)", "coming_end(wishes, here, parting, person)",
        "freed_persons(wishes, here, parting, person)", "is_coming_row(wishes, here, parting, person, value)",
    ],
    "asides": [
        "is_aside(parting, value)", "asides_of(parting)", "aside_pairing(parting, persons)", "great_calm_pairing(wishes)",
        "calmest_aside(wishes, parting)",
    ],
    "away": ["others_pairing(wishes, persons)", "is_away(wishes, value)", "fewest_away(wishes)", "least_aways(wishes)"],
    "betweens": [
        "is_between(wishes, one, other, value)", "all_between(wishes, one, other)", "steps_between(wishes, one, other)",
        "way_between(wishes, one, other)", "is_way_between(wishes, one, other, value)",
    ],
    "bounds": [
        "ranks_of_pairing(wishes, pairing)", "is_within(wishes, bounds, pairing)", "cut_wishes(wishes, bounds)",
        "pairing_within(wishes, bounds)", "bars_within(wishes, bounds, value)", "within_paper(wishes, bounds)",
        "is_within_paper(wishes, bounds, value)",
    ],
    "calm": ["paired_persons(pairing)", "calm_blocks(wishes, pairing)", "is_calm(wishes, value)", "most_calm(wishes)"],
    "order": [
        "does_lean(wishes, turn, other)", "lean_pairs(wishes)", "need_pairs(wishes)", "need_chain(wishes, turn, other)",
        "is_need_chain(wishes, value)",
    ],
    "settlings": ["settling(lodging)", "is_settling(wishes, value)"],
    "statuses": [
        "wishes_paper(wishes)", "is_pairing_paper(wishes, value)", "is_ring_paper(wishes, value)", "status_in(parting, person)",
        "status_paper(wishes, person)", "is_status_paper(wishes, value)",
    ],
    "turnkinds": ["is_complete(wishes, turns)", "odd_turns(wishes)", "sure_turns(wishes)", "free_turns(wishes)"],
    "turnviews": ["chain_of(wishes, person)", "turn_with(wishes, giver, taker)", "clauses_of(wishes, condition)"],
    "best": [
        "greatest_rank(wishes, pairing)", "rank_sum(wishes, pairing)", "least_greatest(wishes)", "least_paper(wishes)",
        "is_least_paper(wishes, value)", "favoured_pairing(wishes, order)", "favoured_paper(wishes, order)",
        "is_favoured_paper(wishes, order, value)", "least_sum(wishes)",
    ],
    "closedlots": [
        "is_closed(wishes, value)", "closed_with(wishes, turns)", "closed_without(wishes, turns)", "closed_lots(wishes)",
        "turns_next(wishes, turns)", "turns_last(wishes, turns)", "mirror_lot(wishes, turns)", "is_turn_order(wishes, value)",
    ],
    "counted": ["choices_in(wishes)", "count_lots(wishes)", "count_with(wishes, turns)", "count_pairings(wishes)"],
    "desk": ["start_desk(disk, wishes)"],
    "limits": [
        "keeps_limits(wishes, limits, pairing)", "bounds_of_limits(wishes, limits)", "pairing_in_limits(wishes, limits)",
        "possible_ranks(wishes, person)", "lasting_in_order(wishes, order, many)",
    ],
    "mended": [
        "parting_with(wishes, here, parting, person)", "coming_paper(wishes, here, person)", "is_coming_paper(wishes, here, person, value)",
        "change_by(here, person, paper)", "changed_part(wishes, here, person)",
    ],
    "nearlypapers": ["calm_paper(wishes)", "is_calm_paper(wishes, value)", "away_paper(wishes)", "is_away_paper(wishes, value)"],
    "comings": ["parting_by_comings(wishes, order)", "askings_by(wishes, order)"],
    "completelots": [
        "is_complete_lot(wishes, value)", "complete_lots(wishes)", "completed_lot(wishes, turns)", "parting_of_lot(wishes, turns)",
        "pairing_of_lot(wishes, turns)", "lot_of_pairing(wishes, pairing)", "pairings_by_lots(wishes)",
    ],
    "leavings": ["parting_without(wishes, here, parting, person)"],
    "paircounts": ["pair_counts(wishes)", "mates_of(wishes, person)", "sure_pairs(wishes)"],
    "runs": [
        "run_commands(lodging, commands)", "run_with_papers(lodging, commands)", "lodging_of_run(lodging, commands, results)",
        "show_result(result)", "run_script(lodging, text)",
    ],
    "asked": ["asked(wishes, question)"],
    "claims": ["run_fault(lodging, commands, answers)", "is_so(value)", "not_so(values)"],
    "exchanging": [
        "exchangeable(wishes, turns)", "exchanged_lot(wishes, turns, turn)", "exchange_row(wishes, one, other)",
        "pairings_beside(wishes, pairing)",
    ],
    "numbered": [
        "first_lot(wishes)", "last_lot(wishes)", "lot_after(wishes, turns)", "lot_at(wishes, number)", "number_of_lot(wishes, turns)",
        "pairing_at(wishes, number)", "number_of_pairing(wishes, pairing)",
    ],
    "askedpapers": [
        "asked_paper(wishes, question)", "is_answer_paper(wishes, question, value)", "is_never_paper(wishes, question, value)",
        "is_walk_paper(wishes, question, value)",
    ],
    "pairsin": ["pairs_in_all(wishes)", "pairs_in_some(wishes)", "pairs_wished(wishes, question)", "pairs_forced(wishes, question)"],
}

CLASSES = {
    "errors": {
        "MateError": [], "InvalidWishes": ["__init__(self, at)"], "InvalidText": ["__init__(self, line, at)"],
        "InvalidPairing": ["__init__(self, at)"], "InvalidParting": ["__init__(self, at)"],
        "InvalidPaper": ["__init__(self, at)"], "InvalidNumber": ["__init__(self, word)"],
        "Refused": ["__init__(self, word)"], "Broken": ["__init__(self, word)"],
    },
    "wishes": {"Wishes": ["__init__(self, names, lists)"]},
    "disk": {"Disk": ["__init__(self, cells)", "look(self, at)", "put(self, at, octet)", "flush(self)", "events(self)"]},
    "journal": {
        "Journal": [
            "__init__(self, disk)", "records(self)", "write(self, record)", "drop(self)", "renew(self, records)",
        ],
    },
    "lodgings": {"Lodging": ["__init__(self, wishes, pairing)"]},
    "statuses": {
        "PairingPaper": ["__init__(self, pairing)"], "RingPaper": ["__init__(self, parting, ring)"],
        "StatusPaper": ["__init__(self, person, status, parting)"],
    },
    "best": {"LeastPaper": ["__init__(self, pairing, parting)"], "FavouredPaper": ["__init__(self, pairing, partings)"]},
    "desk": {
        "Desk": ["__init__(self, disk)", "do(self, deed)", "settle(self)", "undo(self)", "deeds(self)", "begun(self)", "pack(self)"],
    },
    "mended": {"ComingPaper": ["__init__(self, parting, mended)"]},
    "nearlypapers": {"CalmPaper": ["__init__(self, pairing, parting)"], "AwayPaper": ["__init__(self, persons, pairing, parting)"]},
    "keptparting": {
        "KeptParting": ["__init__(self, wishes)", "comes(self, person)", "goes(self, person)", "present_parting(self)", "present_parts(self)"],
    },
    "askedpapers": {
        "AnswerPaper": ["__init__(self, pairing)"], "NeverPaper": ["__init__(self, place)"], "WalkPaper": ["__init__(self, turns)"],
    },
}


class InterfaceTest(unittest.TestCase):
    def test_all_modules_are_told(self):
        told = set(FUNCTIONS) | set(CLASSES)
        self.assertEqual(len(told), 63)
        self.assertLessEqual({module + ".py" for module in told}, set(files()))

    def test_functions(self):
        for module, functions in FUNCTIONS.items():
            loaded = importlib.import_module("lastpairs." + module)
            defined = [node.name for node in ast.parse(text_of(module + ".py")).body if isinstance(node, ast.FunctionDef)]
            for line in functions:
                name, _, parameters = line.partition("(")
                self.assertIn(name, defined, module)
                self.assertEqual(str(inspect.signature(getattr(loaded, name))), "(" + parameters)

    def test_classes(self):
        for module, classes in CLASSES.items():
            loaded = importlib.import_module("lastpairs." + module)
            bodies = {node.name: node.body for node in ast.parse(text_of(module + ".py")).body if isinstance(node, ast.ClassDef)}
            for name, methods in classes.items():
                own = [node.name for node in bodies[name] if isinstance(node, ast.FunctionDef)]
                for line in methods:
                    method, _, parameters = line.partition("(")
                    self.assertIn(method, own, name)
                    self.assertEqual(str(inspect.signature(getattr(getattr(loaded, name), method))), "(" + parameters)

    def test_no_class_is_derived_from_another_one_but_for_the_errors(self):
        for module, classes in CLASSES.items():
            loaded = importlib.import_module("lastpairs." + module)
            for name in classes:
                if module != "errors":
                    self.assertEqual(getattr(loaded, name).__bases__, (object,))


if __name__ == "__main__":
    unittest.main()
