"""Wishes, partings and odd parts among those who are here."""

from lastpairs.judge import is_parting
from lastpairs.rings import all_rings
from lastpairs.wishes import Wishes


def wishes_among(wishes, here):
    """The wishes with the same names in which those here have those here alone on their lists, all others nobody."""
    present = {person: True for person in here}
    lists = []
    for person, some in enumerate(wishes.lists):
        lists.append(tuple([other for other in some if other in present]) if person in present else ())
    return Wishes(wishes.names, tuple(lists))


def is_parting_among(wishes, here, value):
    """Whether a value is a parting that lasts among those here."""
    return is_parting(wishes_among(wishes, here), value)


def odd_parts(here, parting):
    """All rings of an odd number of persons here, single ones too."""
    return tuple([ring for ring in all_rings(parting) if len(ring) & 1 == 1 and ring[0] in here])
