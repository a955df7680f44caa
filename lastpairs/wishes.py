"""Wishes: persons, and for each one the list of those who would do."""

from lastpairs.errors import InvalidWishes, Refused
from lastpairs.kinds import are_unlike_persons, is_name, is_tuple_of

MOST_PERSONS = 60


class Wishes:
    """Names of persons, and for each person the others who would do, the best one first."""

    def __init__(self, names, lists):
        if not _are_names(names):
            raise InvalidWishes(-2)
        if not is_tuple_of(lists, len(names)):
            raise InvalidWishes(-1)
        _check_lists(lists)
        # Nearly every function asks for ranks, so they are found once and kept.
        ranks = _ranks_of_lists(lists)
        _check_both_ways(lists, ranks)
        self.names = names
        self.lists = lists
        self._ranks = ranks

    def __eq__(self, other):
        return isinstance(other, Wishes) and self.names == other.names and self.lists == other.lists


def _are_names(value):
    if not isinstance(value, tuple) or not 1 <= len(value) <= MOST_PERSONS:
        return False
    if not all([is_name(name) for name in value]):
        return False
    return all([value[at] < value[at + 1] for at in range(len(value) - 1)])


def _check_lists(lists):
    for person, some in enumerate(lists):
        if not are_unlike_persons(some, len(lists)) or person in some:
            raise InvalidWishes(person)


def _check_both_ways(lists, ranks):
    for person, some in enumerate(lists):
        for other in some:
            if ranks[other][person] is None:
                raise InvalidWishes(person)


def _ranks_of_lists(lists):
    return tuple([_ranks_of_list(some, len(lists)) for some in lists])


def _ranks_of_list(some, many):
    ranks = [None] * many
    for rank, other in enumerate(some):
        ranks[other] = rank
    return tuple(ranks)


def person_number(wishes, name):
    """The number of the person with a name."""
    if isinstance(name, str):
        for number, known in enumerate(wishes.names):
            if known == name:
                return number
    raise Refused("name")


def is_wished(wishes, person, other):
    """Whether another person is on the list of a person."""
    return wishes._ranks[person][other] is not None


def rank_of(wishes, person, other):
    """The rank of another person, or of nobody, on the list of a person."""
    if other is None:
        return len(wishes.lists[person])
    return wishes._ranks[person][other]


def would_rather(wishes, person, one, other):
    """Whether a person would rather have one than another one."""
    return rank_of(wishes, person, one) < rank_of(wishes, person, other)


def ranks_in(wishes):
    """For each person the ranks of all persons on its list."""
    return wishes._ranks


def best_of(wishes, person, some):
    """The first one of some persons on a person's list."""
    ranks = wishes._ranks[person]
    there = [other for other in some if ranks[other] is not None]
    return min(there, key=lambda member: ranks[member], default=None)


def worst_of(wishes, person, some):
    """The last one of some persons on a person's list."""
    ranks = wishes._ranks[person]
    there = [other for other in some if ranks[other] is not None]
    return max(there, key=lambda member: ranks[member], default=None)


def pairs_in(wishes):
    """All pairs of persons on each other's lists."""
    pairs = [(person, other) for person, some in enumerate(wishes.lists) for other in some if person < other]
    return tuple(sorted(pairs))
