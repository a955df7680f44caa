"""The rings of a parting."""


def ring_from(parting, person):
    """The ring of a person, from this one on."""
    ring = [person]
    while parting[ring[-1]] != person:
        ring.append(parting[ring[-1]])
    return tuple(ring)


def all_rings(parting):
    """All rings, single persons too, each from its least person on, by these."""
    rings = []
    met = {}
    for person in range(len(parting)):
        if person not in met:
            ring = ring_from(parting, person)
            rings.append(ring)
            met.update({other: True for other in ring})
    return tuple(rings)
