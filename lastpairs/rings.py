"""Rings: of a parting, and of any table that tells who comes behind each person."""


def ring_from(behind, person):
    """The ring of a person that is on one, from this one on."""
    ring = [person]
    while behind[ring[-1]] != person:
        ring.append(behind[ring[-1]])
    return tuple(ring)


def from_least(ring):
    """A ring told from its least person on."""
    at = ring.index(min(ring))
    return ring[at:] + ring[:at]


def all_rings(behind):
    """All rings, each from its least person on, by these; behind some persons may be None."""
    rings = []
    met = {}
    for first in range(len(behind)):
        person = first
        while person is not None and person not in met:
            met[person] = first
            person = behind[person]
        # Where this walk meets itself there is a ring that no walk before has met.
        if person is not None and met[person] == first:
            rings.append(from_least(ring_from(behind, person)))
    return tuple(sorted(rings))


def long_odd_rings(parting):
    """The rings of an odd number of persons, three or more, by their least persons."""
    return tuple([ring for ring in all_rings(parting) if len(ring) > 1 and len(ring) & 1 == 1])
