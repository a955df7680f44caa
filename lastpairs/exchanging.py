"""Turns of complete lots exchanged for their opposites."""

from lastpairs.closedlots import last_chosen
from lastpairs.completelots import lot_of_pairing
from lastpairs.errors import Refused
from lastpairs.turntable import (
    TurnTable, are_table_turns, chosen_of, has_turn, lot_of, pairing_by_chosen, places_in,
)


def exchangeable(wishes, turns):
    """The lot of the turns of a complete lot that can be exchanged."""
    table = TurnTable(wishes)
    return lot_of(table, _exchangeable(table, chosen_of(table, turns)))


def _exchangeable(table, chosen):
    """Those turns of a complete lot that are free, and on which none in it leans."""
    return last_chosen(table, chosen) & ~table.sure


def _exchanged(table, chosen, place):
    return chosen ^ 1 << place ^ 1 << table.opposites[place]


def exchanged_lot(wishes, turns, turn):
    """The complete lot with the opposite of a turn in its place."""
    table = TurnTable(wishes)
    chosen = chosen_of(table, turns)
    if not are_table_turns(table, (turn,)) or not has_turn(_exchangeable(table, chosen), table.places[turn]):
        raise Refused("turn")
    return lot_of(table, _exchanged(table, chosen, table.places[turn]))


def exchange_row(wishes, one, other):
    """Turns that are exchanged one after another, from one complete lot to another one."""
    table = TurnTable(wishes)
    lacking = chosen_of(table, one) & ~chosen_of(table, other)
    # In a whole row the last of them is one on which none in the lot leans.
    return tuple([turn for turn in table.row[::-1] if has_turn(lacking, table.places[turn])])


def pairings_beside(wishes, pairing):
    """The lot of the lasting pairings one exchange away from a lasting one."""
    turns = lot_of_pairing(wishes, pairing)
    table = TurnTable(wishes)
    chosen = chosen_of(table, turns)
    places = places_in(_exchangeable(table, chosen))
    return tuple(sorted([pairing_by_chosen(table, _exchanged(table, chosen, place)) for place in places]))
