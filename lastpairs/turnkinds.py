"""Kinds of turns: those that are their own opposites, those that are sure, and those that are free."""

from lastpairs.turns import all_turns, opposite_turn
from lastpairs.turntable import TurnTable, lot_of


def is_complete(wishes, turns):
    """Whether a lot of turns has just one of each two unlike opposites, and no own opposite."""
    lot = {turn: True for turn in turns}
    for turn in all_turns(wishes):
        opposite = opposite_turn(turn)
        if turn == opposite:
            if turn in lot:
                return False
        elif (turn in lot) == (opposite in lot):
            return False
    return True


def odd_turns(wishes):
    """The lot of the turns that are their own opposites."""
    return tuple([turn for turn in all_turns(wishes) if turn == opposite_turn(turn)])


def sure_turns(wishes):
    """The lot of the turns that each way to an end has."""
    table = TurnTable(wishes)
    return lot_of(table, table.sure)


def free_turns(wishes):
    """The lot of the turns that some ways to an end have, but not all."""
    table = TurnTable(wishes)
    return tuple(sorted([table.turns[place] for choice in table.choices for place in choice]))
