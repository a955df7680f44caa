"""The parting that comes about when somebody goes."""

from lastpairs.mended import pair_rest, parting_with
from lastpairs.partings import split_parting
from lastpairs.rings import ring_from


def parting_without(wishes, here, parting, person):
    """The parting that comes about when a person goes."""
    left = list(split_parting(parting))
    ring = ring_from(left, person)
    if len(ring) & 1 == 1:
        pair_rest(left, ring)
        return tuple(left)
    mate = left[person]
    left[person] = person
    left[mate] = mate
    # The mate comes to those who are left.
    others = tuple([other for other in here if other not in (person, mate)])
    return parting_with(wishes, others, tuple(left), mate)
