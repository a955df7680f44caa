"""What can be and what can never be, as the asking shows."""

from lastpairs.errors import Refused
from lastpairs.left import are_left, left_lists
from lastpairs.proposals import asked_once, asked_out, askers_by, holds_behind, no_holds
from lastpairs.wishes import is_wished


def ends_left(wishes):
    """For each person the first and the last one left behind all asking."""
    lists = left_lists(wishes, asked_out(wishes))
    return tuple([(some[0], some[-1]) if some else None for some in lists])


def can_still_be(wishes, person, other):
    """Whether two persons are left to each other behind all asking."""
    return is_wished(wishes, person, other) and are_left(wishes, asked_out(wishes), person, other)


def barring_asks(wishes, person, other):
    """Persons who ask one after another until two are not left to each other, or None."""
    holds = no_holds(wishes)
    row = ()
    for asker in askers_by(wishes, tuple(range(len(wishes.names)))):
        holds = asked_once(wishes, holds, asker)
        row = row + (asker,)
        if not are_left(wishes, holds, person, other):
            return row
    return None


def is_barring_asks(wishes, person, other, value):
    """Whether a value is persons who can ask, behind whom two are not left to each other."""
    if not isinstance(value, tuple):
        return False
    try:
        holds = holds_behind(wishes, value)
    except Refused:
        return False
    return not are_left(wishes, holds, person, other)
