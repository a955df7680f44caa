"""Lodgings: wishes with a pairing that is in force, and the deeds that change them."""

from lastpairs.kinds import is_below, is_couple, is_name, is_number, is_tuple_of
from lastpairs.plain import blocking_pairs, does_last, is_pairing
from lastpairs.remade import is_list_again, with_list, without_pairs, without_persons
from lastpairs.wishes import MOST_PERSONS, Wishes, is_wished


class Lodging:
    """Wishes, and a pairing of them that is in force."""

    def __init__(self, wishes, pairing):
        self.wishes = wishes
        self.pairing = pairing

    def __eq__(self, other):
        return isinstance(other, Lodging) and self.wishes == other.wishes and self.pairing == other.pairing


def is_lodging(value):
    """Whether a value is a lodging, with wishes and a pairing of them."""
    if not isinstance(value, Lodging) or not isinstance(value.wishes, Wishes):
        return False
    return is_pairing(value.wishes, value.pairing)


def _can_come(lodging, deed):
    if len(deed) != 3 or not is_name(deed[1]) or not isinstance(deed[2], tuple):
        return False
    names = lodging.wishes.names
    if deed[1] in names or len(names) == MOST_PERSONS:
        return False
    if not all([_is_place(lodging.wishes, place) for place in deed[2]]):
        return False
    return len({person for person, _ in deed[2]}) == len(deed[2])


def _is_place(wishes, value):
    if not is_tuple_of(value, 2) or not is_below(value[0], len(wishes.names)):
        return False
    return _is_index(wishes, value[0], value[1])


def _is_index(wishes, person, value):
    """Whether a value is an index that somebody new can get on a person's list."""
    return is_number(value) and value <= len(wishes.lists[person])


def _can_go(lodging, deed):
    many = len(lodging.wishes.names)
    return len(deed) == 2 and is_below(deed[1], many) and many > 1


def _can_list(lodging, deed):
    if len(deed) != 3 or not is_below(deed[1], len(lodging.wishes.names)):
        return False
    return is_list_again(lodging.wishes, deed[1], deed[2])


def _can_part(lodging, deed):
    return is_couple(deed[1:], len(lodging.wishes.names)) and is_wished(lodging.wishes, deed[1], deed[2])


def _can_meet(lodging, deed):
    wishes = lodging.wishes
    if not is_couple(deed[1:3], len(wishes.names)) or len(deed) != 5 or is_wished(wishes, deed[1], deed[2]):
        return False
    return _is_index(wishes, deed[1], deed[3]) and _is_index(wishes, deed[2], deed[4])


def _can_join(lodging, deed):
    pair = deed[1:]
    return is_couple(pair, len(lodging.wishes.names)) and pair in blocking_pairs(lodging.wishes, lodging.pairing)


def _can_settle(lodging, deed):
    return len(deed) == 2 and does_last(lodging.wishes, deed[1])


CHECKS = {
    "come": _can_come,
    "go": _can_go,
    "list": _can_list,
    "part": _can_part,
    "meet": _can_meet,
    "join": _can_join,
    "settle": _can_settle,
}


def is_deed(lodging, value):
    """Whether a value is a deed that can be done in a lodging."""
    if not isinstance(value, tuple) or not value or not isinstance(value[0], str):
        return False
    if value[0] not in CHECKS:
        return False
    check = CHECKS[value[0]]
    return check(lodging, value)


def _come(lodging, deed):
    name, places = deed[1:]
    wishes = lodging.wishes
    number = len([known for known in wishes.names if known < name])
    indexes = {person: at for person, at in places}
    lists = []
    for person, some in enumerate(wishes.lists):
        moved = _moved(some, number)
        lists.append(_put_in(moved, indexes[person], number) if person in indexes else moved)
    lists.insert(number, _moved([person for person, _ in places], number))
    names = wishes.names[:number] + (name,) + wishes.names[number:]
    return Lodging(Wishes(names, tuple(lists)), tuple([_moved(pair, number) for pair in lodging.pairing]))


def _moved(persons, number):
    """Persons by their numbers when somebody new has this number."""
    return tuple([person if person < number else person + 1 for person in persons])


def _put_in(some, at, person):
    return some[:at] + (person,) + some[at:]


def _go(lodging, deed):
    gone = deed[1]
    pairs = []
    for pair in lodging.pairing:
        if gone not in pair:
            pairs.append(tuple([person if person < gone else person - 1 for person in pair]))
    return Lodging(without_persons(lodging.wishes, (gone,)), tuple(pairs))


def _list(lodging, deed):
    return Lodging(with_list(lodging.wishes, deed[1], deed[2]), lodging.pairing)


def _part(lodging, deed):
    pair = deed[1:]
    return Lodging(without_pairs(lodging.wishes, (pair,)), tuple([kept for kept in lodging.pairing if kept != pair]))


def _meet(lodging, deed):
    one, other, at, place = deed[1:]
    lists = list(lodging.wishes.lists)
    lists[one] = _put_in(lists[one], at, other)
    lists[other] = _put_in(lists[other], place, one)
    return Lodging(Wishes(lodging.wishes.names, tuple(lists)), lodging.pairing)


def _join(lodging, deed):
    pair = deed[1:]
    kept = [old for old in lodging.pairing if pair[0] not in old and pair[1] not in old]
    return Lodging(lodging.wishes, tuple(sorted(kept + [pair])))


def _settle(lodging, deed):
    return Lodging(lodging.wishes, deed[1])


DOINGS = {
    "come": _come,
    "go": _go,
    "list": _list,
    "part": _part,
    "meet": _meet,
    "join": _join,
    "settle": _settle,
}


def lodging_after(lodging, deed):
    """The lodging behind a deed that can be done."""
    action = DOINGS[deed[0]]
    return action(lodging, deed)


def lodging_after_all(lodging, deeds):
    """The lodging behind some deeds, done one after another."""
    for deed in deeds:
        lodging = lodging_after(lodging, deed)
    return lodging
