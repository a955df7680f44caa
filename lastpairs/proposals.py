"""Persons ask one after another, until nobody can ask any more."""

from lastpairs.errors import Refused
from lastpairs.kinds import is_below
from lastpairs.left import first_left, held_ranks
from lastpairs.wishes import rank_of


def askers(wishes, holds):
    """All who can ask."""
    return tuple([person for person in range(len(holds)) if _asked_by(wishes, holds, person) is not None])


def _asked_by(wishes, holds, person):
    """Whom a person asks, or None if it cannot."""
    if person in holds:
        return None
    return first_left(wishes, held_ranks(wishes, holds), person)


def asked_once(wishes, holds, person):
    """The holds behind the asking of a person."""
    other = _asked_by(wishes, holds, person) if is_below(person, len(holds)) else None
    if other is None:
        raise Refused("asker")
    return holds[:other] + (person,) + holds[other + 1:]


def no_holds(wishes):
    """The holds at the beginning: nobody holds anybody."""
    return (None,) * len(wishes.names)


def holds_behind(wishes, row):
    """The holds when persons have asked one after another."""
    holds = no_holds(wishes)
    for person in row:
        holds = asked_once(wishes, holds, person)
    return holds


def is_asking(wishes, value):
    """Whether a value is a tuple of persons who can ask until nobody can."""
    if not isinstance(value, tuple):
        return False
    try:
        holds = holds_behind(wishes, value)
    except Refused:
        return False
    return not askers(wishes, holds)


def askers_by(wishes, order):
    """The askers one after another, always the first in a sequence of all who can ask."""
    holds = no_holds(wishes)
    row = []
    person = _first_asker(wishes, holds, order)
    while person is not None:
        holds = asked_once(wishes, holds, person)
        row.append(person)
        person = _first_asker(wishes, holds, order)
    return tuple(row)


def _first_asker(wishes, holds, order):
    for person in order:
        if _asked_by(wishes, holds, person) is not None:
            return person
    return None


def asked_out(wishes):
    """The holds when nobody can ask any more."""
    # Who asks before whom does not matter, and who has nobody left now has nobody left later.
    holds = list(no_holds(wishes))
    most = list(held_ranks(wishes, holds))
    waiting = list(range(len(holds)))
    while waiting:
        person = waiting.pop()
        other = first_left(wishes, most, person)
        if other is not None:
            if holds[other] is not None:
                waiting.append(holds[other])
            holds[other] = person
            most[other] = rank_of(wishes, other, person)
    return tuple(holds)


def left_single(wishes):
    """All persons who hold nobody when nobody can ask any more."""
    return tuple([person for person, held in enumerate(asked_out(wishes)) if held is None])
