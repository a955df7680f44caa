"""Closed lots: lots of turns that have with each turn all that it leans on."""

from lastpairs.errors import Refused
from lastpairs.turntable import (
    TurnTable, are_table_turns, chosen_of, has_turn, is_closed_lot, lot_of, places_in, with_all_needed,
)

MOST_LOTS = 500


def is_closed(wishes, value):
    """Whether a value is a closed lot."""
    return is_closed_lot(TurnTable(wishes), value)


def closed_with(wishes, turns):
    """The least closed lot that has all of some turns."""
    table = TurnTable(wishes)
    return lot_of(table, with_all_needed(table, turns))


def closed_without(wishes, turns):
    """The greatest closed lot that has none of some turns."""
    table = TurnTable(wishes)
    barred = chosen_of(table, turns)
    return tuple([turn for turn, needed in zip(table.turns, table.needs) if needed & barred == 0])


def closed_lots(wishes):
    """All closed lots, ascending."""
    table = TurnTable(wishes)
    met = {0: True}
    waiting = [0]
    while waiting:
        chosen = waiting.pop()
        for place in _next_places(table, chosen):
            more = chosen | 1 << place
            if more not in met:
                if len(met) == MOST_LOTS:
                    raise Refused("size")
                met[more] = True
                waiting.append(more)
    return tuple(sorted([lot_of(table, chosen) for chosen in met]))


def _next_places(table, chosen):
    """The places of all turns that can come next: nothing but they themselves lacks of what they need."""
    return [place for place, needed in enumerate(table.needs) if needed & ~chosen == 1 << place]


def turns_next(wishes, turns):
    """The lot of the turns outside a closed lot that lean on nothing outside."""
    table = TurnTable(wishes)
    return tuple([table.turns[place] for place in _next_places(table, chosen_of(table, turns))])


def turns_last(wishes, turns):
    """The lot of the turns in a closed lot on which none in it leans."""
    table = TurnTable(wishes)
    return lot_of(table, last_chosen(table, chosen_of(table, turns)))


def last_chosen(table, chosen):
    """Those of the turns of a closed lot on which none in it leans."""
    last = chosen
    for place in places_in(chosen):
        last &= ~(table.needs[place] ^ 1 << place)
    return last


def mirror_lot(wishes, turns):
    """The lot of all turns whose opposites are not in a lot."""
    table = TurnTable(wishes)
    chosen = chosen_of(table, turns)
    kept = [turn for turn, opposite in zip(table.turns, table.opposites) if not has_turn(chosen, opposite)]
    return tuple(kept)


def is_turn_order(wishes, value):
    """Whether a value is a tuple of all turns, each once, and behind all that it needs."""
    table = TurnTable(wishes)
    if not are_table_turns(table, value) or len(value) != len(table.turns):
        return False
    chosen = 0
    for turn in value:
        place = table.places[turn]
        if table.needs[place] & ~chosen != 1 << place:
            return False
        chosen |= 1 << place
    return True
