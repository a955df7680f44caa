"""Complete lots and lasting pairings by their numbers."""

from lastpairs.completelots import lot_of_pairing
from lastpairs.counting import counting_of
from lastpairs.errors import Refused
from lastpairs.kinds import is_below
from lastpairs.turntable import (
    TurnTable, chosen_after, chosen_of, completed_by, has_odd_turns, has_turn, is_still_open, lot_of, pairing_by_chosen,
)


def first_lot(wishes):
    """The least complete lot."""
    table = TurnTable(wishes)
    return lot_of(table, completed_by(table, 0, 0))


def last_lot(wishes):
    """The greatest complete lot."""
    table = TurnTable(wishes)
    return lot_of(table, completed_by(table, 0, 1))


def lot_after(wishes, turns):
    """The complete lot that comes next behind another one, or None."""
    table = TurnTable(wishes)
    chosen = chosen_after(table, chosen_of(table, turns))
    return None if chosen is None else lot_of(table, chosen)


def lot_at(wishes, number):
    """The complete lot with a number."""
    table = TurnTable(wishes)
    return lot_of(table, _chosen_at(table, number))


def _chosen_at(table, number):
    counting = counting_of(table)
    if not is_below(number, counting.lots_with(table.sure)):
        raise Refused("number")
    chosen = table.sure
    for choice in table.choices:
        if is_still_open(chosen, choice):
            lesser = chosen | table.needs[choice[0]]
            many = counting.lots_with(lesser)
            if number < many:
                chosen = lesser
            else:
                chosen |= table.needs[choice[1]]
                number -= many
    return chosen


def number_of_lot(wishes, turns):
    """The number of a complete lot."""
    table = TurnTable(wishes)
    counting = counting_of(table)
    chosen = chosen_of(table, turns)
    before = table.sure
    number = 0
    for choice in table.choices:
        if is_still_open(before, choice):
            if has_turn(chosen, choice[0]):
                before |= table.needs[choice[0]]
            else:
                # All lots that have the lesser turn here come first.
                number += counting.lots_with(before | table.needs[choice[0]])
                before |= table.needs[choice[1]]
    return number


def pairing_at(wishes, number):
    """The lasting pairing of the lot with a number."""
    table = TurnTable(wishes)
    if has_odd_turns(table):
        raise Refused("odd")
    return pairing_by_chosen(table, _chosen_at(table, number))


def number_of_pairing(wishes, pairing):
    """The number of the lot of a lasting pairing."""
    return number_of_lot(wishes, lot_of_pairing(wishes, pairing))
