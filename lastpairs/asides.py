"""One person of each odd ring set aside, so that all others are in a calm pairing."""

from lastpairs.errors import Refused
from lastpairs.kinds import is_lot_of_persons
from lastpairs.partings import odd_rings_in, parting_of, split_parting
from lastpairs.plain import blocking_pairs
from lastpairs.rings import ring_from
from lastpairs.turningout import pairs_apart

MOST_ASIDES = 2000


def is_aside(parting, value):
    """Whether a value is a lot with just one person of each odd ring, and nobody else."""
    if not is_lot_of_persons(value, len(parting)):
        return False
    rings = odd_rings_in(parting)
    return len(value) == len(rings) and all([_chosen_of(ring, value) is not None for ring in rings])


def _chosen_of(ring, persons):
    """The first person of a ring that is one of some persons, or None."""
    for person in ring:
        if person in persons:
            return person
    return None


def asides_of(parting):
    """All lots that fit a parting, ascending."""
    rings = odd_rings_in(parting)
    many = 1
    for ring in rings:
        many *= len(ring)
    if many > MOST_ASIDES:
        raise Refused("size")
    lots = [()]
    for ring in rings:
        lots = [lot + (person,) for lot in lots for person in ring]
    return tuple(sorted([tuple(sorted(lot)) for lot in lots]))


def aside_pairing(parting, persons):
    """The pairing of all persons on rings but those of a lot that fits."""
    if not is_aside(parting, persons):
        raise Refused("persons")
    paired = list(split_parting(parting))
    for ring in odd_rings_in(parting):
        told = ring_from(parting, _chosen_of(ring, persons))
        paired[told[0]] = told[0]
        for at in range(1, len(told), 2):
            paired[told[at + 1]] = told[at]
    return pairs_apart(paired)


def great_calm_pairing(wishes):
    """A calm pairing with as many pairs as there can be."""
    parting = parting_of(wishes)
    return aside_pairing(parting, tuple([ring[0] for ring in odd_rings_in(parting)]))


def calmest_aside(wishes, parting):
    """The least number of pairs that block an aside pairing, and the first lot that fits for it."""
    best = None
    for persons in asides_of(parting):
        many = len(blocking_pairs(wishes, aside_pairing(parting, persons)))
        if best is None or many < best[0]:
            best = many, persons
    return best
