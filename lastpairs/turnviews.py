"""How turns tell whom persons come to, and what conditions say of turns."""

from lastpairs.turntable import TurnTable, chain_in, places_between
from lastpairs.wishes import rank_of


def chain_of(wishes, person):
    """Those who hold a person one after another, from the greatest firm holds to their mirror."""
    return chain_in(TurnTable(wishes), person)


def turn_with(wishes, giver, taker):
    """The turn that has a giver with a taker, or None."""
    table = TurnTable(wishes)
    place = table.at_pair.get((giver, taker))
    return None if place is None else table.turns[place]


def clauses_of(wishes, condition):
    """The clauses of a condition: lots of turns, of each of which a lasting pairing that meets it has one."""
    table = TurnTable(wishes)
    clauses = clauses_in(table, condition)
    return tuple([tuple([table.turns[place] for place in clause]) for clause in clauses])


def clauses_in(table, condition):
    """The clauses of a condition, of the places of turns."""
    word, person, other = condition[:3]
    if word == "with":
        return _clauses_for_pair(table, person, other)
    if word == "without":
        return _clauses_against_pair(table, person, other)
    if word == "best":
        return _clauses_for_best(table, person, other)
    if word == "worst":
        return _clauses_for_worst(table, person, other)
    clauses = []
    for one in _clauses_for_pair(table, person, other):
        for instead in _clauses_for_pair(table, condition[3], condition[4]):
            clauses.append(tuple(sorted(set(one + instead))))
    return tuple(clauses)


def _clauses_for_pair(table, person, other):
    if other not in chain_in(table, person):
        return ((),)
    return tuple([(table.opposites[place],) for place in places_between(table, person, other)])


def _clauses_against_pair(table, person, other):
    if other not in chain_in(table, person):
        return ()
    return (tuple(sorted(set(places_between(table, person, other)))),)


def _clauses_for_best(table, person, rank):
    last = _last_on_chain(table, person, rank + 1)
    if last is None:
        return ((),)
    place = table.at_pair.get((person, last))
    return () if place is None else ((table.opposites[place],),)


def _clauses_for_worst(table, person, rank):
    last = _last_on_chain(table, person, rank)
    if last is None:
        return ()
    place = table.at_pair.get((person, last))
    return ((),) if place is None else ((place,),)


def _last_on_chain(table, person, rank):
    """The last one on a person's chain with a lower rank than this, or None."""
    last = None
    for other in chain_in(table, person):
        if rank_of(table.wishes, person, other) < rank:
            last = other
    return last
