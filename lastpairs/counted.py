"""Choices of free turns, and how many complete lots and lasting pairings there are."""

from lastpairs.counting import counting_of
from lastpairs.turntable import TurnTable, has_odd_turns, joined


def choices_in(wishes):
    """All pairs of free turns that are opposites, the lesser one first."""
    table = TurnTable(wishes)
    return tuple([(table.turns[place], table.turns[other]) for place, other in table.choices])


def count_lots(wishes):
    """How many complete lots there are."""
    return count_with(wishes, ())


def count_with(wishes, turns):
    """How many complete lots have all turns of a lot."""
    table = TurnTable(wishes)
    counting = counting_of(table)
    chosen = joined(table, table.sure, [table.places[turn] for turn in turns])
    return 0 if chosen is None else counting.lots_with(chosen)


def count_pairings(wishes):
    """How many lasting pairings there are."""
    table = TurnTable(wishes)
    return 0 if has_odd_turns(table) else counting_of(table).lots_with(table.sure)
