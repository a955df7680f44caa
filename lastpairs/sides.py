"""Two sides of which each person wishes only persons of the other one, or a ring that bars them."""

from lastpairs.kinds import are_unlike_persons, is_below, is_tuple_of
from lastpairs.wishes import is_wished, pairs_in


def sides_or_ring(wishes):
    """Sides, or an odd ring of wishes if there are none."""
    sides = [None] * len(wishes.names)
    before = [None] * len(wishes.names)
    for person in range(len(sides)):
        if sides[person] is None:
            ring = _spread(wishes, sides, before, person)
            if ring is not None:
                return "ring", ring
    return "sides", tuple(sides)


def _spread(wishes, sides, before, first):
    """Gives sides to a piece, and returns None, or an odd ring of wishes that is met."""
    sides[first] = 0
    waiting = [first]
    while waiting:
        person = waiting.pop()
        for other in wishes.lists[person]:
            if sides[other] is None:
                sides[other] = 1 - sides[person]
                before[other] = person
                waiting.append(other)
            elif sides[other] == sides[person]:
                return _ring_back(before, person, other)
    return None


def _ring_back(before, person, other):
    """The ring from a person back to who has given another one its side, and by this one."""
    # Persons wait on a stack: whoever still waits was given its side by somebody on the way back.
    ring = [person]
    while ring[-1] != before[other]:
        ring.append(before[ring[-1]])
    return tuple(ring + [other])


def are_sides(wishes, value):
    """Whether a value is sides."""
    if not is_tuple_of(value, len(wishes.names)) or not all([is_below(side, 2) for side in value]):
        return False
    return all([value[one] != value[other] for one, other in pairs_in(wishes)])


def is_odd_ring(wishes, value):
    """Whether a value is an odd ring of wishes."""
    if not are_unlike_persons(value, len(wishes.names)) or len(value) < 3 or len(value) & 1 == 0:
        return False
    return all([is_wished(wishes, value[at - 1], person) for at, person in enumerate(value)])


def is_two_sided(wishes):
    """Whether there are sides."""
    return sides_or_ring(wishes)[0] == "sides"
