"""Two partings, one beside the other."""

from lastpairs.plain import pair_of
from lastpairs.plainpartings import before_in, rank_beside
from lastpairs.wishes import rank_of


def edges_of(parting):
    """All pairs of persons next to one another."""
    edges = [pair_of(person, follower) for person, follower in enumerate(parting) if person != follower]
    # In a ring of two each of the two has told the pair.
    return tuple(sorted(set(edges)))


def risen_pairs(wishes, one, other):
    """All pairs next to one another in the other parting alone, whose first one rises and whose second one sinks."""
    known = edges_of(one)
    before = before_in(one)
    risen = []
    for edge in edges_of(other):
        if edge not in known:
            for person, mate in (edge, edge[::-1]):
                rises = rank_of(wishes, person, mate) < rank_beside(wishes, person, one[person])
                if rises and rank_beside(wishes, mate, before[mate]) < rank_of(wishes, mate, person):
                    risen.append((person, mate))
    return tuple(sorted(risen))
