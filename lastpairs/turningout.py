"""Rings turned out one after another, until a lasting parting is left."""

from lastpairs.errors import Refused
from lastpairs.left import firsts_left
from lastpairs.plainpartings import before_in
from lastpairs.proposals import asked_out
from lastpairs.rings import long_odd_rings
from lastpairs.turnrings import good_rings, holds_past, is_good_ring


def turning_row(wishes, holds):
    """The rings turned out one after another, always the first good one, until there is none."""
    return _turned_to_end(wishes, holds)[0]


def last_holds(wishes, holds):
    """The holds behind all rings of the turning row."""
    return _turned_to_end(wishes, holds)[1]


def _turned_to_end(wishes, holds):
    row = []
    rings = good_rings(wishes, holds)
    while rings:
        row.append(rings[0])
        holds = holds_past(holds, rings[0])
        rings = good_rings(wishes, holds)
    return tuple(row), holds


def holds_behind_rings(wishes, holds, row):
    """The holds when rings have been turned out one after another."""
    for ring in row:
        if not is_good_ring(wishes, holds, ring):
            raise Refused("ring")
        holds = holds_past(holds, ring)
    return holds


def is_turning_row(wishes, holds, value):
    """Whether a value is rings turned out one after another until there is no good one."""
    if not isinstance(value, tuple):
        return False
    try:
        after = holds_behind_rings(wishes, holds, value)
    except Refused:
        return False
    return not good_rings(wishes, after)


def holds_by_parting(parting):
    """The holds in which each person holds the one before it on its ring, single ones nobody."""
    return tuple([None if one == person else one for person, one in enumerate(before_in(parting))])


def parting_by_holds(wishes, holds):
    """The parting in which first ones are the next ones."""
    return tuple([person if first is None else first for person, first in enumerate(firsts_left(wishes, holds))])


def end_parting(wishes):
    """A lasting parting of pairs, odd rings and single persons."""
    return parting_by_holds(wishes, last_holds(wishes, asked_out(wishes)))


def solved(wishes):
    """A lasting pairing, or an odd ring of a lasting parting, and this parting."""
    parting = end_parting(wishes)
    rings = long_odd_rings(parting)
    if rings:
        return "ring", rings[0], parting
    return "pairing", pairs_apart(parting)


def pairs_apart(parting):
    """The pairing of the pairs of a parting in which there are no longer rings."""
    return tuple([(person, follower) for person, follower in enumerate(parting) if person < follower])
