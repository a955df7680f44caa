"""Wishes made of other wishes: with less in them, or with other names; and their pieces."""

from lastpairs.errors import Refused
from lastpairs.kinds import are_unlike_persons, is_name, is_tuple_of
from lastpairs.wishes import Wishes


def both_ways(names, lists):
    """The wishes in which just those stay on a list on whose list the person is, too."""
    kept = []
    for person, some in enumerate(lists):
        kept.append(tuple([other for other in some if person in lists[other]]))
    return Wishes(names, tuple(kept))


def with_persons(wishes, persons):
    """The wishes of a lot of persons alone, numbered anew."""
    if not persons:
        raise Refused("persons")
    numbers = {person: number for number, person in enumerate(persons)}
    names = tuple([wishes.names[person] for person in persons])
    lists = [tuple([numbers[other] for other in wishes.lists[person] if other in numbers]) for person in persons]
    return Wishes(names, tuple(lists))


def without_persons(wishes, persons):
    """The wishes of all but a lot of persons, numbered anew."""
    return with_persons(wishes, tuple([person for person in range(len(wishes.names)) if person not in persons]))


def without_pairs(wishes, pairs):
    """The wishes in which some pairs are on each other's lists no more."""
    gone = {pair: True for pair in pairs}
    lists = []
    for person, some in enumerate(wishes.lists):
        lists.append(tuple([other for other in some if (min(person, other), max(person, other)) not in gone]))
    return Wishes(wishes.names, tuple(lists))


def is_list_again(wishes, person, some):
    """Whether a value is a person's list, in another sequence or the same one."""
    return are_unlike_persons(some, len(wishes.names)) and sorted(some) == sorted(wishes.lists[person])


def with_list(wishes, person, some):
    """The wishes with a person's list in another sequence."""
    if not is_list_again(wishes, person, some):
        raise Refused("list")
    return Wishes(wishes.names, wishes.lists[:person] + (some,) + wishes.lists[person + 1:])


def renamed_wishes(wishes, names):
    """The wishes with new names, and the new numbers of all persons."""
    if not _are_new_names(names, len(wishes.names)):
        raise Refused("names")
    ascending = sorted(names)
    numbers = tuple([ascending.index(name) for name in names])
    lists = [()] * len(names)
    for person, some in enumerate(wishes.lists):
        lists[numbers[person]] = tuple([numbers[other] for other in some])
    return Wishes(tuple(ascending), tuple(lists)), numbers


def _are_new_names(value, many):
    if not is_tuple_of(value, many) or not all([is_name(name) for name in value]):
        return False
    return len(set(value)) == many


def piece_of(wishes, person):
    """A person and all to whom lists lead from it."""
    met = {person: True}
    waiting = [person]
    while waiting:
        reached = waiting.pop()
        for other in wishes.lists[reached]:
            if other not in met:
                met[other] = True
                waiting.append(other)
    return tuple(sorted(met))


def pieces_in(wishes):
    """All pieces, by their first persons."""
    pieces = []
    met = {}
    for person in range(len(wishes.names)):
        if person not in met:
            piece = piece_of(wishes, person)
            pieces.append(piece)
            met.update({other: True for other in piece})
    return tuple(pieces)
