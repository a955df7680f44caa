"""Levels: lasting pairings between two sides, the one side's mates from the best, the other side's from behind."""

from lastpairs.errors import Refused
from lastpairs.kinds import is_below
from lastpairs.middles import mate_at
from lastpairs.plain import mates_in, pair_of


def level_pairing(wishes, sides, pairings, place):
    """The pairing in which each person of the side 0 has the one at a place of its mates."""
    if not is_below(place, len(pairings)):
        raise Refused("place")
    rows = [mates_in(len(sides), pairing) for pairing in pairings]
    pairs = []
    for person, side in enumerate(sides):
        mate = mate_at(wishes, person, [row[person] for row in rows], place)
        # The other side's mates, at this place from behind, are these same pairs.
        if side == 0 and mate is not None:
            pairs.append(pair_of(person, mate))
    return tuple(sorted(pairs))
