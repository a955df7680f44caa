"""The middle of an odd number of lasting pairings."""

from lastpairs.errors import Refused
from lastpairs.plain import is_pairing, mates_in, pairs_of_mates
from lastpairs.wishes import rank_of


def middle_pairing(wishes, pairings):
    """The pairing in which each person has the one in the middle of its mates."""
    if len(pairings) & 1 == 0:
        raise Refused("even")
    many = len(wishes.names)
    rows = [mates_in(many, pairing) for pairing in pairings]
    place = len(rows) // 2
    return pairs_of_mates([mate_at(wishes, person, [row[person] for row in rows], place) for person in range(many)])


def mate_at(wishes, person, mates, place):
    """The one at a place of some mates of a person, sorted by their ranks, or None."""
    rank = sorted([rank_of(wishes, person, mate) for mate in mates])[place]
    return wishes.lists[person][rank] if rank < len(wishes.lists[person]) else None


def is_middle(wishes, pairings, value):
    """Whether a value is the middle of some pairings."""
    middle = middle_pairing(wishes, pairings)
    return is_pairing(wishes, value) and value == middle


def difference(wishes, one, other):
    """How far the ranks of all persons are apart in two pairings."""
    many = len(wishes.names)
    total = 0
    for person, (mate, instead) in enumerate(zip(mates_in(many, one), mates_in(many, other))):
        total += abs(rank_of(wishes, person, mate) - rank_of(wishes, person, instead))
    return total
