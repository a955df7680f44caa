"""Papers for questions: of an answer, or why there is none."""

from lastpairs.asked import asked
from lastpairs.calls import Calls, never_place, places_called
from lastpairs.conditions import answers_all
from lastpairs.kinds import is_below
from lastpairs.partings import odd_rings_in, parting_of
from lastpairs.plain import does_last
from lastpairs.statuses import RingPaper
from lastpairs.turntable import TurnTable, are_table_turns, has_odd_turns


class AnswerPaper:
    """A pairing, right if it lasts and meets all conditions."""

    def __init__(self, pairing):
        self.pairing = pairing


class NeverPaper:
    """The index of a condition, right if no lasting pairing can meet this one."""

    def __init__(self, place):
        self.place = place


class WalkPaper:
    """Turns, right if each calls for the next one, from one to its opposite and back."""

    def __init__(self, turns):
        self.turns = turns


def asked_paper(wishes, question):
    """A right paper for a question: of an answer, or why there is none."""
    table = TurnTable(wishes)
    if has_odd_turns(table):
        parting = parting_of(wishes)
        return RingPaper(parting, odd_rings_in(parting)[0])
    pairing = asked(wishes, question)
    if pairing is not None:
        return AnswerPaper(pairing)
    calls = Calls(table, question)
    if never_place(calls) is not None:
        return NeverPaper(never_place(calls))
    return WalkPaper(tuple([table.turns[place] for place in _walk(calls)]))


def _walk(calls):
    """The places of turns from one to its opposite and back; there is such a walk if nothing answers."""
    for place, opposite in enumerate(calls.table.opposites):
        there = _way(calls, place, opposite)
        back = _way(calls, opposite, place) if there else []
        if back:
            return there + back[1:]
    return []


def _way(calls, place, aim):
    """The places of turns, each of which calls for the next one, from one to another; none if there is no way."""
    before = {place: None}
    waiting = [place]
    while waiting and aim not in before:
        found = []
        for at in waiting:
            for other in places_called(calls, at):
                if other not in before:
                    before[other] = at
                    found.append(other)
        waiting = found
    return _told_back(before, aim) if aim in before else []


def _told_back(before, place):
    way = []
    while place is not None:
        way.append(place)
        place = before[place]
    return way[::-1]


def is_answer_paper(wishes, question, value):
    """Whether a value is a right paper of an answer."""
    if not isinstance(value, AnswerPaper) or not does_last(wishes, value.pairing):
        return False
    return answers_all(wishes, value.pairing, question)


def is_never_paper(wishes, question, value):
    """Whether a value is a right paper of a condition that is never met."""
    if not isinstance(value, NeverPaper) or not is_below(value.place, len(question)):
        return False
    table = TurnTable(wishes)
    return not has_odd_turns(table) and () in Calls(table, question).clauses[value.place]


def is_walk_paper(wishes, question, value):
    """Whether a value is a right paper of a walk."""
    table = TurnTable(wishes)
    if not isinstance(value, WalkPaper) or has_odd_turns(table) or not are_table_turns(table, value.turns):
        return False
    places = [table.places[turn] for turn in value.turns]
    if not places or places[0] != places[-1] or table.opposites[places[0]] not in places:
        return False
    calls = Calls(table, question)
    return all([places[at] in places_called(calls, places[at - 1]) for at in range(1, len(places))])
