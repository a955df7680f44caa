"""Halves: a parting told by how much each two persons have of one another."""

from lastpairs.compared import edges_of
from lastpairs.kinds import is_below, is_couple, is_tuple_of
from lastpairs.wishes import best_of, is_wished, pairs_in, rank_of


def halves_of(parting):
    """The halves of a parting: two for a ring of two, otherwise one for two next to one another."""
    return tuple([(one, other, 2 if parting[parting[one]] == one else 1) for one, other in edges_of(parting)])


def are_halves(wishes, value):
    """Whether a value is halves."""
    if not isinstance(value, tuple) or not all([_is_item(wishes, item) for item in value]):
        return False
    if not all([value[at - 1][:2] < value[at][:2] for at in range(1, len(value))]):
        return False
    return all([sum(list(some.values())) in (0, 2) for some in _tables_of(wishes, value)])


def _is_item(wishes, value):
    if not is_tuple_of(value, 3) or not is_couple(value[:2], len(wishes.names)):
        return False
    return is_wished(wishes, value[0], value[1]) and is_below(value[2], 3) and value[2] > 0


def _tables_of(wishes, halves):
    """For each person with whom it has halves, and how many."""
    tables = [{} for _ in wishes.names]
    for one, other, many in halves:
        tables[one][other] = many
        tables[other][one] = many
    return tables


def are_lasting_halves(wishes, value):
    """Whether a value is halves that last."""
    if not are_halves(wishes, value):
        return False
    tables = _tables_of(wishes, value)
    for one, other in pairs_in(wishes):
        if not _outweighs(wishes, tables, one, other) and not _outweighs(wishes, tables, other, one):
            return False
    return True


def _outweighs(wishes, tables, person, other):
    """Whether a person has both its halves with another one and those whom it would rather have."""
    some = wishes.lists[person][:rank_of(wishes, person, other) + 1]
    return sum([tables[person].get(member, 0) for member in some]) == 2


def parting_by_halves(wishes, halves):
    """The parting in which each person's next one is the best one with whom it has halves."""
    parting = []
    for person, some in enumerate(_tables_of(wishes, halves)):
        best = best_of(wishes, person, list(some))
        parting.append(person if best is None else best)
    return tuple(parting)
