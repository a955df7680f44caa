"""Lasting partings, their odd rings and single persons, and lasting pairings made of them."""

from lastpairs.errors import Refused
from lastpairs.plainpartings import split_ring
from lastpairs.rings import all_rings, long_odd_rings
from lastpairs.turningout import end_parting, pairs_apart


def parting_of(wishes):
    """A lasting parting."""
    return end_parting(wishes)


def odd_rings_in(parting):
    """The rings of an odd number of persons, three or more, by their least persons."""
    return long_odd_rings(parting)


def single_in_parting(parting):
    """All single persons of a parting."""
    return tuple([person for person, follower in enumerate(parting) if person == follower])


def odd_rings(wishes):
    """The odd rings of all lasting partings."""
    return odd_rings_in(parting_of(wishes))


def single_persons(wishes):
    """The single persons of all lasting partings."""
    return single_in_parting(parting_of(wishes))


def barring_ring(wishes):
    """The first odd ring, or None."""
    rings = odd_rings(wishes)
    return rings[0] if rings else None


def split_parting(parting):
    """The parting in which each ring of an even number of persons falls into pairs."""
    for ring in all_rings(parting):
        if len(ring) & 1 == 0:
            parting = split_ring(parting, ring[0])
    return parting


def pairing_by(parting):
    """The pairing of the pairs of a parting whose rings are split."""
    if odd_rings_in(parting):
        raise Refused("ring")
    return pairs_apart(split_parting(parting))


def lasting_pairing(wishes):
    """A lasting pairing, or None if there is none."""
    parting = parting_of(wishes)
    return None if odd_rings_in(parting) else pairing_by(parting)
