"""What lies between two pairings."""

from lastpairs.errors import Refused
from lastpairs.plain import mates_in, partner_of
from lastpairs.wishes import would_rather


def rings_between(one, other):
    """The rings of all persons who have unlike mates in two pairings."""
    if _paired(one) != _paired(other):
        raise Refused("way")
    rings = []
    met = {}
    for person in _paired(one):
        if person not in met and partner_of(one, person) != partner_of(other, person):
            ring = _ring_of(one, other, person)
            rings.append(ring)
            met.update({member: True for member in ring})
    return tuple(rings)


def _paired(pairing):
    return sorted([person for pair in pairing for person in pair])


def _ring_of(one, other, person):
    ring = [person, partner_of(one, person)]
    while partner_of(other, ring[-1]) != person:
        ring.append(partner_of(other, ring[-1]))
        ring.append(partner_of(one, ring[-1]))
    return tuple(ring)


def gainers(wishes, one, other):
    """All who would rather have what they have in the first pairing."""
    had = mates_in(len(wishes.names), one)
    lost = mates_in(len(wishes.names), other)
    persons = range(len(wishes.names))
    return tuple([person for person in persons if would_rather(wishes, person, had[person], lost[person])])
