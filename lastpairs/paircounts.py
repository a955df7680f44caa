"""How many lasting pairings have a pair."""

from lastpairs.counting import counting_of
from lastpairs.turntable import TurnTable, has_odd_turns, joined, possible_mates, wanted_for_pair


def pair_counts(wishes):
    """For each pair that is in some lasting pairing, how many of them it is in."""
    table = TurnTable(wishes)
    counts = {}
    if not has_odd_turns(table):
        counting = counting_of(table)
        for pair in _possible_pairs(table):
            counts[pair] = counting.lots_with(joined(table, table.sure, wanted_for_pair(table, pair[0], pair[1])))
    return counts


def _possible_pairs(table):
    persons = range(len(table.wishes.names))
    return [(person, mate) for person in persons for mate in possible_mates(table, person) if person < mate]


def mates_of(wishes, person):
    """All that a person has in lasting pairings, the best one first."""
    pairs = list(pair_counts(wishes))
    return tuple([mate for mate in wishes.lists[person] if (min(person, mate), max(person, mate)) in pairs])


def sure_pairs(wishes):
    """The lot of all pairs that are in every lasting pairing."""
    pairs = list(pair_counts(wishes))
    persons = [person for pair in pairs for person in pair]
    # Whoever is in no other pair is in this one each time, as the same persons are single in all.
    return tuple(sorted([pair for pair in pairs if persons.count(pair[0]) == 1]))
