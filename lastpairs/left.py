"""Holds: whom each person holds, and who is left to whom."""

from lastpairs.kinds import is_below, is_tuple_of
from lastpairs.wishes import Wishes, is_wished, rank_of, ranks_in


def are_holds(wishes, value):
    """Whether a value is holds."""
    many = len(wishes.names)
    if not is_tuple_of(value, many):
        return False
    return all([_may_hold(wishes, person, held) for person, held in enumerate(value)])


def _may_hold(wishes, person, held):
    return held is None or (is_below(held, len(wishes.names)) and is_wished(wishes, person, held))


def held_ranks(wishes, holds):
    """For each person the rank of whom it holds: others of at most this rank are not refused."""
    return tuple([rank_of(wishes, person, held) for person, held in enumerate(holds)])


def are_left(wishes, holds, person, other):
    """Whether two persons on each other's lists are left to each other."""
    kept = rank_of(wishes, person, other) <= rank_of(wishes, person, holds[person])
    return kept and rank_of(wishes, other, person) <= rank_of(wishes, other, holds[other])


def left_lists(wishes, holds):
    """The lists of those who are left."""
    most = held_ranks(wishes, holds)
    return tuple([_left_list(wishes, most, person) for person in range(len(holds))])


def _left_list(wishes, most, person):
    ranks = ranks_in(wishes)
    kept = wishes.lists[person][:most[person] + 1]
    return tuple([other for other in kept if ranks[other][person] <= most[other]])


def left_wishes(wishes, holds):
    """The wishes with the lists of those who are left."""
    return Wishes(wishes.names, left_lists(wishes, holds))


def first_left(wishes, most, person):
    """The first one left on a person's list, with ranks as of held_ranks."""
    ranks = ranks_in(wishes)
    for other in wishes.lists[person][:most[person] + 1]:
        if ranks[other][person] <= most[other]:
            return other
    return None


def firsts_left(wishes, holds):
    """For each person the first one that is left on its list."""
    most = held_ranks(wishes, holds)
    return tuple([first_left(wishes, most, person) for person in range(len(holds))])


def is_steady(wishes, value):
    """Whether a value is steady holds."""
    if not are_holds(wishes, value):
        return False
    firsts = firsts_left(wishes, value)
    kept = all([held is None or firsts[held] == person for person, held in enumerate(value)])
    # The other way round, too: nobody is the first one of two.
    return kept and all([first is None or value[first] == person for person, first in enumerate(firsts)])


def are_within(wishes, one, other):
    """Whether nobody would rather have whom it holds in other than whom it holds in one."""
    return all([rank <= bound for rank, bound in zip(held_ranks(wishes, one), held_ranks(wishes, other))])
