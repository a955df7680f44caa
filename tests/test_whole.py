"""The whole program: the same told in several ways, arguments left alone, and the greatest wishes that are allowed."""

import random
import time
import unittest
from itertools import permutations

from lastpairs import (
    alltables, among, arrivals, asides, asked, askedpapers, askpapers, away, best, between, betweens, bounds, calm, claims, closedlots, comings,
    commands, completelots, counted, couples, exchanging, firm, halves, leavings, left, limits, mended, middles, nearlypapers, neighbours, numbered, order,
    paircounts, pairsin, partings, plain, plainpartings, proposals, reader, remade, runs, settlings, sidepairs, sides, statuses, turningout,
    turnkinds, turnrings, turns, turnviews,
)
from lastpairs import printer, wishes as wishes_module
from lastpairs.desk import Desk, start_desk
from lastpairs.disk import Disk
from lastpairs.errors import MateError
from lastpairs.keptparting import KeptParting
from lastpairs.lodgings import Lodging
from lastpairs.wishes import Wishes
from tests import naive
from tests.helpers import crossed, ladder, many_wishes, raised, rich_wishes, ring_wishes, round_rings, shaken, side_by_side, sixties, squares, wishes_of

# Some of all wishes: with odd rings and without, with no turns, with sure ones alone, and with many.
SHAPES = [
    squares(1), squares(2), squares(3), round_rings(3), round_rings(3, 3), round_rings(3, 4), ring_wishes(6), ring_wishes(7), crossed(2), crossed(4),
    wishes_of(()), wishes_of((1,), (0,)), wishes_of(*[()] * 8), wishes_of((1,), (0, 2), (1,)), side_by_side(round_rings(3), squares(1)),
]


def by_turning_out(wishes):
    """The pairings of all steady holds with no good ring, if there are no odd rings."""
    ends = [holds for holds in alltables.steady_tables(wishes) if not turnrings.good_rings(wishes, holds)]
    told = [turningout.parting_by_holds(wishes, holds) for holds in ends]
    return sorted({partings.pairing_by(parting) for parting in told if not partings.odd_rings_in(parting)})


def by_numbers(wishes):
    return sorted(numbered.pairing_at(wishes, number) for number in range(counted.count_pairings(wishes)))


def by_questions(wishes):
    """Asked again and again: of each pair some have whether the two are mates or not."""
    found, waiting = [], [()]
    pairs = [] if partings.barring_ring(wishes) else pairsin.pairs_in_some(wishes)
    while waiting:
        question = waiting.pop()
        pairing = asked.asked(wishes, question)
        if pairing is not None:
            if len(question) == len(pairs):
                found.append(pairing)
            else:
                pair = pairs[len(question)]
                waiting.extend([question + (("with",) + pair,), question + (("without",) + pair,)])
    return sorted(found)


def by_runs(wishes, pairings):
    """Those of some pairings that last when they are in force."""
    return sorted(pairing for pairing in pairings if runs.run_script(Lodging(wishes, pairing), "lasts") == ("lasts",))


def by_steps(wishes):
    """From one to the next ones, by exchanges."""
    first = partings.lasting_pairing(wishes)
    found = set() if first is None else {first}
    waiting = sorted(found)
    while waiting:
        for pairing in exchanging.pairings_beside(wishes, waiting.pop()):
            if pairing not in found:
                found.add(pairing)
                waiting.append(pairing)
    return sorted(found)


class TheSameTest(unittest.TestCase):
    def test_all_lasting_pairings(self):
        several = 0
        for wishes in many_wishes(1, 120, 7) + [some for some in rich_wishes(1, 60) if len(some.names) < 9] + SHAPES:
            told = list(plain.lasting_pairings(wishes))
            if raised(alltables.steady_tables, wishes) is None:
                self.assertEqual(by_turning_out(wishes), told)
            self.assertEqual(list(completelots.pairings_by_lots(wishes)), told)
            self.assertEqual(by_numbers(wishes), told)
            self.assertEqual(by_questions(wishes), told)
            self.assertEqual(by_steps(wishes), told)
            self.assertEqual(sorted(limits.lasting_in_order(wishes, tuple(naive.persons(wishes)), 1000)), told)
            if raised(plain.all_pairings, wishes) is None:
                self.assertEqual(by_runs(wishes, plain.all_pairings(wishes)[:200] + tuple(told)), sorted(
                    [pairing for pairing in plain.all_pairings(wishes)[:200] if pairing in told] + told
                ))
            self.assertEqual(counted.count_pairings(wishes), len(told))
            self.check_single_ones(wishes, told)
            several += len(told) > 1
        self.assertGreater(several, 15)

    def check_single_ones(self, wishes, told):
        """What one alone is asked for is one of them, or there is none."""
        one = [partings.lasting_pairing(wishes), best.least_greatest(wishes), asked.asked(wishes, ()), bounds.pairing_within(wishes, (None,) * len(wishes.names)),
               limits.pairing_in_limits(wishes, (None,) * len(wishes.names)), away.others_pairing(wishes, ())]
        word, *rest = turningout.solved(wishes)
        one.append(rest[0] if word == "pairing" else None)
        word, pairing = settlings.settling(Lodging(wishes, ()))
        one.append(pairing if word == "settle" else None)
        for pairing in one:
            self.assertIn(pairing, told or [None])
        self.assertEqual(partings.barring_ring(wishes) is None, bool(told))
        self.assertEqual(bool(turnkinds.odd_turns(wishes)), not told)
        if told:
            self.assertEqual(pairsin.pairs_in_some(wishes), tuple(sorted({pair for pairing in told for pair in pairing})))
            self.assertEqual(paircounts.sure_pairs(wishes), pairsin.pairs_in_all(wishes))
            self.assertEqual(sorted(paircounts.pair_counts(wishes)), list(pairsin.pairs_in_some(wishes)))

    def test_persons_who_come(self):
        """In whatever sequence all come, there is a lasting pairing in the end, or the same odd rings."""
        for wishes in many_wishes(2, 20, 5) + [squares(1), round_rings(3, 1), ring_wishes(5)]:
            told = plain.lasting_pairings(wishes)
            for sequence in permutations(naive.persons(wishes)):
                parting = comings.parting_by_comings(wishes, sequence)
                if told:
                    self.assertIn(partings.pairing_by(parting), told)
                else:
                    self.assertEqual(partings.odd_rings_in(parting), partings.odd_rings(wishes))

    def test_partings(self):
        """Lasting partings by trying, by steady holds, by complete lots and by who comes."""
        for wishes in many_wishes(3, 80, 6) + [some for some in SHAPES if len(some.names) < 8]:
            told = plainpartings.lasting_partings(wishes)
            steady = [holds for holds in alltables.steady_tables(wishes) if all(len(some) < 3 for some in left.left_lists(wishes, holds))]
            self.assertEqual(sorted(turningout.parting_by_holds(wishes, holds) for holds in steady), list(told))
            split = sorted({partings.split_parting(parting) for parting in told})
            by_lots = {completelots.parting_of_lot(wishes, lot) for lot in completelots.complete_lots(wishes)}
            self.assertTrue(set(split) <= by_lots <= set(told))
            kept = KeptParting(wishes)
            for person in naive.persons(wishes):
                kept.comes(person)
            self.assertIn(kept.present_parting(), told)
            self.assertEqual({partings.odd_rings_in(parting) for parting in told}, {partings.odd_rings(wishes)})

    def test_a_desk_and_a_run(self):
        """The same is done at a desk as in a run."""
        text = "come zz a 0\nsettle\njoin a zz\ngo a\nsettle\npart b c\nsettle\nmeet b c 0 0"
        for wishes in many_wishes(4, 30, 6, 3):
            named, _ = remade.renamed_wishes(wishes, tuple("abcdef"[:len(wishes.names)]))
            lodging, desk = Lodging(named, ()), start_desk(Disk((0,) * 4000), named)
            parsed = commands.read_commands(text)
            results = runs.run_commands(lodging, parsed)
            for command, result in zip(parsed, results):
                deed = None if command == ("settle",) else runs.deed_of(desk.lodging, command)
                if command == ("settle",):
                    self.assertEqual(desk.settle()[0], "settle" if result[0] == "settled" else "ring")
                elif result == ("did",):
                    desk.do(deed)
                else:
                    self.assertEqual(raised(desk.do, deed), ("Refused", "deed"))
            self.assertEqual(desk.lodging, runs.lodging_of_run(lodging, parsed, results))
            self.assertEqual(Desk(desk.disk).lodging, desk.lodging)


def calls_of(wishes, chance):
    """Calls of nearly all functions of wishes, with arguments as they are described."""
    many = len(wishes.names)
    everybody, nobody = tuple(range(many)), (None,) * many
    parting, holds = partings.parting_of(wishes), proposals.asked_out(wishes)
    row = turns.whole_row(wishes)
    lots = numbered.first_lot(wishes), numbered.last_lot(wishes)
    sequence = tuple(chance.sample(everybody, many))
    person = chance.randrange(many)
    others = tuple(one for one in everybody if one != person)
    rest = partings.parting_of(among.wishes_among(wishes, others))
    question = (("best", person, 3), ("worst", sequence[0], 1))
    pairing = partings.lasting_pairing(wishes)
    pairs = wishes_module.pairs_in(wishes)
    yield from ((call, wishes) for call in (
        wishes_module.ranks_in, wishes_module.pairs_in, remade.pieces_in, sides.sides_or_ring, sides.is_two_sided, plain.all_pairings, plain.lasting_pairings,
        plainpartings.lasting_partings, proposals.asked_out, proposals.left_single, askpapers.ends_left, alltables.steady_tables, turningout.solved,
        partings.parting_of, partings.odd_rings, partings.single_persons, partings.barring_ring, partings.lasting_pairing, firm.firm_holds, turns.whole_row,
        turns.all_turns, order.lean_pairs, order.need_pairs, asides.great_calm_pairing, away.fewest_away, away.least_aways, calm.most_calm,
        statuses.wishes_paper, turnkinds.odd_turns, turnkinds.sure_turns, turnkinds.free_turns, closedlots.closed_lots, counted.choices_in,
        counted.count_lots, counted.count_pairings, best.least_greatest, best.least_paper, best.least_sum, nearlypapers.calm_paper, nearlypapers.away_paper,
        completelots.complete_lots, completelots.pairings_by_lots, numbered.first_lot, numbered.last_lot, paircounts.pair_counts, paircounts.sure_pairs,
        pairsin.pairs_in_all, pairsin.pairs_in_some, printer.show_wishes,
    ))
    yield from (
        (turningout.turning_row, wishes, holds), (turningout.last_holds, wishes, holds), (turnrings.turn_rings, wishes, holds), (firm.firm_rings, wishes, holds),
        (alltables.rings_to, wishes, holds, turningout.last_holds(wishes, holds)), (proposals.askers_by, wishes, sequence),
        (proposals.is_asking, wishes, proposals.askers_by(wishes, sequence)), (turns.is_whole_row, wishes, row), (turns.turns_of, wishes, firm.held_by(holds)),
        (turns.holds_of_turns, wishes, tuple(sorted(row))), (order.is_need_chain, wishes, row[::-1]), (partings.split_parting, parting),
        (asides.asides_of, parting), (asides.calmest_aside, wishes, parting), (halves.are_lasting_halves, wishes, halves.halves_of(parting)),
        (neighbours.blocking_neighbours, wishes, parting, ()), (statuses.status_paper, wishes, person), (away.others_pairing, wishes, (person,)),
        (arrivals.coming_row, wishes, others, rest, person), (mended.parting_with, wishes, others, rest, person), (mended.coming_paper, wishes, others, person),
        (mended.changed_part, wishes, others, person), (leavings.parting_without, wishes, everybody, parting, person), (comings.parting_by_comings, wishes, sequence),
        (comings.askings_by, wishes, sequence), (bounds.within_paper, wishes, (3,) + nobody[1:]), (limits.pairing_in_limits, wishes, ((1, 3),) + nobody[1:]),
        (limits.possible_ranks, wishes, person), (limits.lasting_in_order, wishes, sequence, 200), (best.favoured_paper, wishes, sequence),
        (turnkinds.is_complete, wishes, lots[0]), (turnviews.chain_of, wishes, person), (turnviews.clauses_of, wishes, question[0]),
        (closedlots.is_closed, wishes, lots[0]), (closedlots.closed_with, wishes, row[-2:]), (closedlots.closed_without, wishes, row[:2]),
        (closedlots.turns_next, wishes, lots[1]), (closedlots.turns_last, wishes, lots[1]), (closedlots.mirror_lot, wishes, lots[0]),
        (closedlots.is_turn_order, wishes, row), (counted.count_with, wishes, lots[0]), (completelots.is_complete_lot, wishes, lots[1]),
        (completelots.completed_lot, wishes, ()), (completelots.parting_of_lot, wishes, lots[1]), (exchanging.exchangeable, wishes, lots[0]),
        (exchanging.exchange_row, wishes, lots[0], lots[1]), (numbered.lot_after, wishes, lots[0]), (numbered.lot_at, wishes, 0), (numbered.number_of_lot, wishes, lots[1]),
        (numbered.pairing_at, wishes, 0), (paircounts.mates_of, wishes, person), (asked.asked, wishes, question), (askedpapers.asked_paper, wishes, question),
        (pairsin.pairs_wished, wishes, question), (pairsin.pairs_forced, wishes, question), (settlings.settling, Lodging(wishes, ())),
        (runs.run_script, Lodging(wishes, ()), "settle\nlasts\ncalm\naway\nstatus aa\nleft aa ab\ngo aa\nsettle"),
        (claims.is_so, ("run", Lodging(wishes, ()), (("settle",), ("away",)), runs.run_with_papers(Lodging(wishes, ()), (("settle",), ("away",))))),
        (reader.read_wishes, printer.show_wishes(wishes)), (reader.completed_wishes, printer.show_wishes(wishes)[:-2]), (plain.blocking_pairs, wishes, ()),
    )
    if pairs:
        yield askpapers.barring_asks, wishes, *pairs[-1]
    if row:
        yield order.need_chain, wishes, row[-1], row[0]
    if pairing is not None:
        yield from (
            (exchanging.pairings_beside, wishes, pairing), (completelots.lot_of_pairing, wishes, pairing), (numbered.number_of_pairing, wishes, pairing),
            (betweens.way_between, wishes, pairing, pairing), (middles.middle_pairing, wishes, (pairing,) * 3), (between.gainers, wishes, pairing, pairing),
            (couples.neighbour_couples, wishes, parting, pairing),
        )
        if sides.is_two_sided(wishes):
            yield sidepairs.side_pairing, wishes, sides.sides_or_ring(wishes)[1], 0


def has_list(value):
    """Whether a list is anywhere in a result."""
    if isinstance(value, tuple):
        return any(has_list(part) for part in value)
    if type(value).__module__.startswith("lastpairs"):
        return any(has_list(part) for name, part in vars(value).items() if not name.startswith("_"))
    return isinstance(value, list)


def outcome(call, *told):
    try:
        return call(*told)
    except MateError as error:
        return error.__class__.__name__, tuple(vars(error).values())


def parts_of(value):
    """A value as tuples, objects of the package told by their classes and attributes."""
    if isinstance(value, (tuple, list)):
        return (type(value).__name__, *[parts_of(part) for part in value])
    if isinstance(value, dict):
        return ("dict", *[parts_of(part) for part in value.items()])
    if type(value).__module__.startswith("lastpairs"):
        return (type(value).__name__, *[(name, parts_of(part)) for name, part in vars(value).items()])
    return value


class CallsTest(unittest.TestCase):
    def test_arguments_stay_and_results_are_the_same(self):
        chance = random.Random(5)
        for wishes in many_wishes(5, 40, 7) + SHAPES:
            other = Wishes(tuple(list(wishes.names)), tuple(tuple(list(some)) for some in wishes.lists))
            for call, *told in list(calls_of(wishes, chance)):
                before = parts_of(told)
                result = outcome(call, *told)
                self.assertEqual(parts_of(told), before, call.__name__)
                self.assertFalse(has_list(result), call.__name__)
                again = [other if part is wishes else part for part in told]
                self.assertEqual(parts_of(outcome(call, *again)), parts_of(result), call.__name__)
            self.assertEqual(other, wishes)

    def test_changed_arguments_have_no_effect(self):
        """Lists in the place of tuples are no arguments that are described, but papers keep what they are given."""
        some = [1]
        for kind in (best.LeastPaper, best.FavouredPaper, mended.ComingPaper, nearlypapers.CalmPaper):
            self.assertIs(list(vars(kind(some, None)).values())[0], some)
        kept = KeptParting(squares(1))
        here = kept.here
        kept.comes(0)
        self.assertEqual(here, ())
        counts = paircounts.pair_counts(squares(1))
        counts[(0, 1)] = 7
        self.assertEqual(paircounts.pair_counts(squares(1))[(0, 1)], 1)


class GreatestTest(unittest.TestCase):
    def test_sixty_persons_within_seconds(self):
        chance = random.Random(6)
        greatest = sixties() + [
            side_by_side(crossed(16), crossed(8), crossed(4), crossed(2)), ladder(30), squares(15), shaken(ring_wishes(60), chance, 300),
            shaken(side_by_side(crossed(16), ring_wishes(28)), chance, 40),
            wishes_of(*[[30 + (at + step) % 30 for step in range(30)] for at in range(30)], *[[(at - step) % 30 for step in range(29, -1, -1)] for at in range(30)]),
        ]
        for wishes in greatest:
            for call, *told in calls_of(wishes, chance):
                begun = time.perf_counter()
                outcome(call, *told)
                self.assertLess(time.perf_counter() - begun, 10, call.__name__)

    def test_twelve_and_eight_persons_within_seconds(self):
        chance = random.Random(7)
        everybody = wishes_of(*[[other for other in range(12) if other != person] for person in range(12)])
        for wishes in [everybody, ring_wishes(12), shaken(ring_wishes(12), chance, 50), crossed(4), squares(3), remade.with_persons(everybody, tuple(range(8))), ring_wishes(8)]:
            for call in (plain.all_pairings, plain.lasting_pairings, best.least_sum, plainpartings.lasting_partings):
                begun = time.perf_counter()
                outcome(call, wishes)
                self.assertLess(time.perf_counter() - begun, 10, call.__name__)


if __name__ == "__main__":
    unittest.main()
