"""Pairs that some, or all, lasting pairings have, and those among them that answer a question."""

from lastpairs.calls import Calls, chosen_answer, reached
from lastpairs.errors import Refused
from lastpairs.plain import pair_of
from lastpairs.turntable import (
    TurnTable, has_odd_turns, pairing_by_chosen, places_between, possible_mates, wanted_for_pair,
)


def pairs_in_all(wishes):
    """The lot of the pairs that all lasting pairings have."""
    rows = _rows_of_mates(wishes)
    # The same persons are single in all of them: so a person's only possible mate is its mate each time.
    pairs = [pair_of(person, mates[0]) for person, mates in enumerate(rows) if len(mates) == 1]
    return tuple(sorted(set(pairs)))


def pairs_in_some(wishes):
    """The lot of the pairs that some lasting pairings have."""
    rows = _rows_of_mates(wishes)
    return tuple(sorted([(person, mate) for person, mates in enumerate(rows) for mate in mates if person < mate]))


def _rows_of_mates(wishes):
    """For each person its mates in lasting pairings."""
    table = TurnTable(wishes)
    if has_odd_turns(table):
        raise Refused("ring")
    return [possible_mates(table, person) for person in range(len(wishes.names))]


def pairs_wished(wishes, question):
    """The lot of the pairs that some lasting pairing has which answers a question."""
    table = TurnTable(wishes)
    if has_odd_turns(table):
        return ()
    calls = Calls(table, question)
    if chosen_answer(calls) is None:
        return ()
    return tuple([pair for pair in pairs_in_some(wishes) if _can_be(calls, wanted_for_pair(table, pair[0], pair[1]))])


def _can_be(calls, places):
    """Whether some answer has the turns of these places, if there is an answer."""
    chosen = calls.table.sure
    for place in places:
        chosen |= calls.table.needs[place]
    return reached(calls, chosen) is not None


def pairs_forced(wishes, question):
    """The lot of the pairs that all lasting pairings have which answer a question."""
    table = TurnTable(wishes)
    calls = Calls(table, question)
    chosen = None if has_odd_turns(table) else chosen_answer(calls)
    if chosen is None:
        raise Refused("question")
    pairs = pairing_by_chosen(table, chosen)
    return tuple([pair for pair in pairs if not _can_be_apart(calls, pair)])


def _can_be_apart(calls, pair):
    """Whether in some answer two persons are no mates: one of them has let the other one go."""
    return any([_can_be(calls, [place]) for place in places_between(calls.table, pair[0], pair[1])])
