"""Questions asked: a lasting pairing that meets all conditions."""

from lastpairs.calls import Calls, chosen_answer
from lastpairs.turntable import TurnTable, has_odd_turns, pairing_by_chosen


def asked(wishes, question):
    """A lasting pairing that meets all conditions of a question, or None."""
    table = TurnTable(wishes)
    if has_odd_turns(table):
        return None
    chosen = chosen_answer(Calls(table, question))
    return None if chosen is None else pairing_by_chosen(table, chosen)
