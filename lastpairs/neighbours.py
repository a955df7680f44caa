"""Who blocks a pairing beside those next to one another in a parting."""

from lastpairs.compared import edges_of
from lastpairs.plain import blocking_pairs, mates_in


def blocking_neighbours(wishes, parting, pairing):
    """All pairs of persons next to one another in a parting who block a pairing."""
    edges = edges_of(parting)
    return tuple([pair for pair in blocking_pairs(wishes, pairing) if pair in edges])


def is_unblocked_beside(wishes, parting, pairing):
    """Whether no two persons next to one another in a parting block a pairing."""
    return not blocking_neighbours(wishes, parting, pairing)


def strays(wishes, parting, pairing):
    """All persons who are single in just one of a parting and a pairing."""
    mates = mates_in(len(wishes.names), pairing)
    return tuple([person for person, mate in enumerate(mates) if (parting[person] == person) != (mate is None)])
