"""Rings of steady holds, and how they are turned out."""

from lastpairs.errors import Refused
from lastpairs.kinds import are_rows_of_persons
from lastpairs.left import left_lists
from lastpairs.rings import all_rings, from_least, ring_from


def giver_behind(wishes, holds, person):
    """Whom a person's second one holds."""
    behind = _givers_behind(holds, left_lists(wishes, holds))[person]
    if behind is None:
        raise Refused("list")
    return behind


def _givers_behind(holds, lists):
    """For each person the giver behind it, or None."""
    return [holds[some[1]] if len(some) > 1 else None for some in lists]


def turn_from(wishes, holds, person):
    """The ring that a person leads to."""
    lists = left_lists(wishes, holds)
    if len(lists[person]) < 2:
        raise Refused("list")
    behind = _givers_behind(holds, lists)
    # After as many steps as there are persons, the walk goes round the ring.
    for _ in lists:
        person = behind[person]
    return _with_takers(from_least(ring_from(behind, person)), lists)


def _with_takers(givers, lists):
    return tuple([(giver, lists[giver][0]) for giver in givers])


def turn_rings(wishes, holds):
    """All rings, by their least givers."""
    return _rings_in(holds, left_lists(wishes, holds))


def _rings_in(holds, lists):
    return tuple([_with_takers(givers, lists) for givers in all_rings(_givers_behind(holds, lists))])


def is_turn_ring(wishes, holds, value):
    """Whether a value is a ring."""
    return are_rows_of_persons(value, len(holds)) and value in turn_rings(wishes, holds)


def is_odd_turn(wishes, holds, ring):
    """Whether a ring is odd."""
    return _is_odd(left_lists(wishes, holds), ring)


def _is_odd(lists, ring):
    takers = [taker for _, taker in ring]
    return all([giver in takers and len(lists[giver]) == 2 for giver, _ in ring])


def good_rings(wishes, holds):
    """All rings that are not odd, by their least givers."""
    lists = left_lists(wishes, holds)
    return tuple([ring for ring in _rings_in(holds, lists) if not _is_odd(lists, ring)])


def is_good_ring(wishes, holds, value):
    """Whether a value is a ring that is not odd."""
    return are_rows_of_persons(value, len(holds)) and value in good_rings(wishes, holds)


def turned_out(wishes, holds, ring):
    """The holds behind a ring that is turned out."""
    if is_odd_turn(wishes, holds, ring):
        raise Refused("odd")
    return holds_past(holds, ring)


def holds_past(holds, ring):
    """The holds in which each taker of a ring holds the giver before it."""
    after = list(holds)
    for at, (_, taker) in enumerate(ring):
        after[taker] = ring[at - 1][0]
    return tuple(after)
