"""Firm holds, their rings, and how these are turned over."""

from lastpairs.errors import Refused
from lastpairs.left import are_holds, held_ranks
from lastpairs.proposals import asked_out
from lastpairs.rings import all_rings
from lastpairs.turnrings import holds_past
from lastpairs.wishes import rank_of, ranks_in

MOST_HOLDS = 200


def is_firm(wishes, value):
    """Whether a value is firm holds."""
    if not are_holds(wishes, value) or _is_held_twice(value):
        return False
    ranks = ranks_in(wishes)
    most = held_ranks(wishes, value)
    holders = held_ranks(wishes, held_by(value))
    for person, some in enumerate(wishes.lists):
        for other in some[:holders[person]]:
            if ranks[other][person] < most[other]:
                return False
    return True


def _is_held_twice(holds):
    givers = [held for held in holds if held is not None]
    return len(set(givers)) < len(givers)


def held_by(holds):
    """For each person the one that holds it: the mirror of holds in which nobody is held twice."""
    before = [None] * len(holds)
    for taker, giver in enumerate(holds):
        if giver is not None:
            before[giver] = taker
    return tuple(before)


def firm_holds(wishes):
    """All firm holds, ascending by the ranks of those who are held."""
    first = asked_out(wishes)
    met = {first: True}
    waiting = [first]
    while waiting:
        holds = waiting.pop()
        for ring in firm_rings(wishes, holds):
            after = turned_over(holds, ring)
            if after not in met:
                if len(met) == MOST_HOLDS:
                    raise Refused("size")
                met[after] = True
                waiting.append(after)
    # Who holds nobody does so in all of them, so no rank of it ever tells two of them apart.
    return tuple(sorted(met, key=lambda table: held_ranks(wishes, table)))


def second_of(wishes, holds, person):
    """The first one behind its holder that would rather hold a person than whom it holds, or None."""
    if person not in holds:
        return None
    ranks = ranks_in(wishes)
    behind = rank_of(wishes, person, holds.index(person)) + 1
    for other in wishes.lists[person][behind:]:
        if ranks[other][person] < rank_of(wishes, other, holds[other]):
            return other
    return None


def firm_rings(wishes, holds):
    """All rings of firm holds, ascending."""
    holders = held_by(holds)
    behind = []
    for person in range(len(holds)):
        second = second_of(wishes, holds, person)
        behind.append(None if second is None else holds[second])
    return tuple([tuple([(giver, holders[giver]) for giver in ring]) for ring in all_rings(behind)])


def is_ring_of(wishes, holds, ring):
    """Whether a ring of some firm holds is one of these."""
    for at, (giver, taker) in enumerate(ring):
        if holds[taker] != giver or second_of(wishes, holds, ring[at - 1][0]) != taker:
            return False
    return True


def turned_over(holds, ring):
    """The holds in which each next taker of a ring holds the giver."""
    return holds_past(holds, ring)
