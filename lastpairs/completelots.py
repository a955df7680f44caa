"""Complete lots: closed lots with just one of each two opposite turns, and the partings and pairings that they tell."""

from lastpairs.errors import Refused
from lastpairs.plain import does_last, mates_in
from lastpairs.turns import turns_of
from lastpairs.turntable import (
    TurnTable, chosen_after, chosen_of, completed_by, has_odd_turns, is_steady_lot, lot_of, pairing_by_chosen,
    parting_by_chosen,
)

MOST_LOTS = 500


def is_complete_lot(wishes, value):
    """Whether a value is a complete lot."""
    return _is_complete(TurnTable(wishes), value)


def _is_complete(table, value):
    if not is_steady_lot(table, value):
        return False
    odd = [place for place, opposite in enumerate(table.opposites) if place == opposite]
    return 2 * len(value) == len(table.turns) - len(odd)


def complete_lots(wishes):
    """All complete lots, ascending."""
    table = TurnTable(wishes)
    return tuple([lot_of(table, chosen) for chosen in _all_chosen(table)])


def _all_chosen(table):
    found = []
    chosen = completed_by(table, 0, 0)
    while chosen is not None:
        if len(found) == MOST_LOTS:
            raise Refused("size")
        found.append(chosen)
        chosen = chosen_after(table, chosen)
    return found


def completed_lot(wishes, turns):
    """A complete lot that has all turns of a closed lot in which no turn is with its opposite."""
    table = TurnTable(wishes)
    if not is_steady_lot(table, turns):
        raise Refused("turns")
    return lot_of(table, completed_by(table, chosen_of(table, turns), 0))


def parting_of_lot(wishes, turns):
    """The lasting parting of a complete lot."""
    table = TurnTable(wishes)
    if not _is_complete(table, turns):
        raise Refused("turns")
    return parting_by_chosen(table, chosen_of(table, turns))


def pairing_of_lot(wishes, turns):
    """The lasting pairing of a complete lot."""
    table = TurnTable(wishes)
    if not _is_complete(table, turns):
        raise Refused("turns")
    if has_odd_turns(table):
        raise Refused("odd")
    return pairing_by_chosen(table, chosen_of(table, turns))


def lot_of_pairing(wishes, pairing):
    """The complete lot of a lasting pairing."""
    if not does_last(wishes, pairing):
        raise Refused("pairing")
    # Whoever is in a pair holds its mate.
    return turns_of(wishes, mates_in(len(wishes.names), pairing))


def pairings_by_lots(wishes):
    """The pairings of all complete lots, ascending."""
    table = TurnTable(wishes)
    if has_odd_turns(table):
        return ()
    return tuple(sorted([pairing_by_chosen(table, chosen) for chosen in _all_chosen(table)]))
