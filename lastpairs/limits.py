"""Limits: least and greatest ranks of persons; ranks that are possible, and lasting pairings in an order."""

from lastpairs.bounds import pairing_within, ranks_of_pairing
from lastpairs.turntable import (
    TurnTable, has_odd_turns, joined, pairing_by_chosen, possible_mates, wanted_for_pair,
)
from lastpairs.wishes import rank_of


def keeps_limits(wishes, limits, pairing):
    """Whether a pairing keeps limits."""
    for rank, limit in zip(ranks_of_pairing(wishes, pairing), limits):
        if limit is not None and (rank is None or not limit[0] <= rank <= limit[1]):
            return False
    return True


def bounds_of_limits(wishes, limits):
    """Bounds such that a lasting pairing keeps limits exactly if it is within these."""
    bounds = [None if limit is None else limit[1] for limit in limits]
    for person, limit in enumerate(limits):
        if limit is not None:
            # Whom a person must not have, each of these must have somebody better.
            for other in wishes.lists[person][:limit[0]]:
                bounds[other] = _lesser(bounds[other], rank_of(wishes, other, person) - 1)
    return tuple(bounds)


def _lesser(bound, rank):
    return rank if bound is None else min(bound, rank)


def pairing_in_limits(wishes, limits):
    """A lasting pairing that keeps limits, or None."""
    return pairing_within(wishes, bounds_of_limits(wishes, limits))


def possible_ranks(wishes, person):
    """The lot of the ranks that a person has in lasting pairings."""
    table = TurnTable(wishes)
    if has_odd_turns(table):
        return ()
    return tuple([rank_of(wishes, person, mate) for mate in possible_mates(table, person)])


def lasting_in_order(wishes, order, many):
    """The first lasting pairings, or all, each ahead of the next one for an order."""
    table = TurnTable(wishes)
    found = []
    if not has_odd_turns(table):
        rows = [_rows_of(table, person) for person in order]
        # Who has one mate in all lasting pairings tells none of them apart.
        _add_in_order(table, [row for row in rows if len(row) > 1], table.sure, many, found)
    return tuple(found)


def _rows_of(table, person):
    """For each possible mate of a person, the best one first, the places of turns that are wanted for the pair."""
    return [wanted_for_pair(table, person, mate) for mate in possible_mates(table, person)]


def _add_in_order(table, rows, chosen, many, found):
    """Adds the lasting pairings whose lots have what is chosen, until there are as many as asked for."""
    if len(found) == many:
        return
    if not rows:
        found.append(pairing_by_chosen(table, chosen))
        return
    for places in rows[0]:
        more = joined(table, chosen, places)
        # Each closed lot without conflict can be completed, so no branch of these is in vain.
        if more is not None:
            _add_in_order(table, rows[1:], more, many, found)
