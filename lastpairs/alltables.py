"""All steady holds, and the ways between them."""

from lastpairs.errors import Refused
from lastpairs.left import are_within, held_ranks
from lastpairs.proposals import asked_out
from lastpairs.turnrings import good_rings, holds_past

MOST_TABLES = 100


def steady_tables(wishes):
    """All steady holds, ascending by the ranks of those who are held."""
    first = asked_out(wishes)
    met = {first: True}
    waiting = [first]
    while waiting:
        holds = waiting.pop()
        for ring in good_rings(wishes, holds):
            after = holds_past(holds, ring)
            if after not in met:
                if len(met) == MOST_TABLES:
                    raise Refused("size")
                met[after] = True
                waiting.append(after)
    return tuple(sorted(met, key=lambda table: held_ranks(wishes, table)))


def rings_to(wishes, holds, aim):
    """Good rings that are turned out one after another, from holds to an aim."""
    row = ()
    while holds != aim:
        ring = _ring_towards(wishes, holds, aim)
        row = row + (ring,)
        holds = holds_past(holds, ring)
    return row


def _ring_towards(wishes, holds, aim):
    """A good ring behind which an aim is still within the holds: there is one unless it is not so now."""
    for ring in good_rings(wishes, holds):
        if are_within(wishes, aim, holds_past(holds, ring)):
            return ring
    raise Refused("aim")
