"""Which turns a question calls for when some of them are chosen."""

from lastpairs.turntable import is_in_conflict, places_in
from lastpairs.turnviews import clauses_in


class Calls:
    """The clauses of a question, and for each turn those that clauses call for with it."""

    def __init__(self, table, question):
        self.table = table
        self.clauses = tuple([clauses_in(table, condition) for condition in question])
        self.called = _called_by(table, [clause for some in self.clauses for clause in some])


def _called_by(table, clauses):
    called = [{} for _ in table.turns]
    for clause in clauses:
        # If the opposite of the one is in a lot, the one is not: so the other one must be, perhaps the same.
        if clause:
            called[table.opposites[clause[0]]][clause[-1]] = True
            called[table.opposites[clause[-1]]][clause[0]] = True
    return tuple([tuple(sorted(some)) for some in called])


def places_called(calls, place):
    """The places of all turns that a turn calls for."""
    return sorted(set(calls.table.leans[place] + calls.called[place]))


def never_place(calls):
    """The index of the first condition that no lasting pairing meets, as one of its clauses is empty, or None."""
    for place, clauses in enumerate(calls.clauses):
        if () in clauses:
            return place
    return None


def reached(calls, chosen):
    """A closed lot with all that its turns call for, one after another, or None if this brings a conflict."""
    needs = calls.table.needs
    waiting = places_in(chosen)
    while waiting:
        place = waiting.pop()
        for other in calls.called[place]:
            waiting.extend(places_in(needs[other] & ~chosen))
            chosen |= needs[other]
    return None if is_in_conflict(calls.table, chosen) else chosen


def chosen_answer(calls):
    """A complete lot of some wishes without odd turns that has a turn of each clause, or None."""
    if never_place(calls) is not None:
        return None
    needs = calls.table.needs
    chosen = reached(calls, calls.table.sure)
    for one, other in calls.table.choices:
        if chosen is None:
            return None
        # What was reached before calls for nothing else: so if neither turn can be chosen, nothing answers.
        more = reached(calls, chosen | needs[one])
        chosen = reached(calls, chosen | needs[other]) if more is None else more
    return chosen
