"""Pairings, and which of them last: all found by trying."""

from lastpairs.errors import InvalidPairing, Refused
from lastpairs.kinds import is_couple
from lastpairs.wishes import is_wished, pairs_in, rank_of, ranks_in, would_rather

MOST_PAIRINGS = 20000
MOST_PERSONS = 12

# The mate of who is not yet decided on, while pairings are tried: no person and not None.
OPEN = -1


def check_pairing(wishes, value):
    """Raises an error if a value is no pairing."""
    if not isinstance(value, tuple):
        raise InvalidPairing(-1)
    taken = {}
    for at, pair in enumerate(value):
        if not is_couple(pair, len(wishes.names)) or not is_wished(wishes, pair[0], pair[1]):
            raise InvalidPairing(at)
        if at > 0 and pair <= value[at - 1]:
            raise InvalidPairing(at)
        if pair[0] in taken or pair[1] in taken:
            raise InvalidPairing(at)
        taken[pair[0]] = taken[pair[1]] = True


def is_pairing(wishes, value):
    """Whether a value is a pairing."""
    try:
        check_pairing(wishes, value)
    except InvalidPairing:
        return False
    return True


def partner_of(pairing, person):
    """The mate of a person, or None."""
    for one, other in pairing:
        if person == one:
            return other
        if person == other:
            return one
    return None


def mates_in(many, pairing):
    """The mate, or None, of each person, of so many."""
    mates = [None] * many
    for one, other in pairing:
        mates[one] = other
        mates[other] = one
    return tuple(mates)


def pairs_of_mates(mates):
    """The pairing in which persons have these mates."""
    return tuple([(person, mate) for person, mate in enumerate(mates) if mate is not None and person < mate])


def single_in(wishes, pairing):
    """All persons that are in no pair."""
    mates = mates_in(len(wishes.names), pairing)
    return tuple([person for person, mate in enumerate(mates) if mate is None])


def all_pairings(wishes):
    """All pairings, ascending."""
    found = []
    _add_pairings(found, (), pairs_in(wishes))
    return tuple(found)


def _add_pairings(found, pairing, pairs):
    """Adds a pairing, and all that have some of these pairs behind its own ones."""
    if len(found) == MOST_PAIRINGS:
        raise Refused("size")
    found.append(pairing)
    for at, pair in enumerate(pairs):
        apart = [other for other in pairs[at + 1:] if not _do_meet(pair, other)]
        _add_pairings(found, pairing + (pair,), apart)


def _do_meet(pair, other):
    return pair[0] in other or pair[1] in other


def pair_of(one, other):
    """The pair of two persons, the lesser one first."""
    return min(one, other), max(one, other)


def blocking_pairs(wishes, pairing):
    """All pairs who block a pairing."""
    ranks = ranks_in(wishes)
    mates = mates_in(len(wishes.names), pairing)
    most = [rank_of(wishes, person, mate) for person, mate in enumerate(mates)]
    pairs = []
    for person, some in enumerate(wishes.lists):
        for other in some[:most[person]]:
            if person < other and ranks[other][person] < most[other]:
                pairs.append((person, other))
    return tuple(sorted(pairs))


def is_lasting(wishes, pairing):
    """Whether nobody blocks a pairing."""
    return not blocking_pairs(wishes, pairing)


def does_last(wishes, value):
    """Whether a value is a pairing that lasts."""
    return is_pairing(wishes, value) and is_lasting(wishes, value)


def lasting_pairings(wishes):
    """All lasting pairings, ascending."""
    if len(wishes.names) > MOST_PERSONS:
        raise Refused("size")
    found = []
    _try_mates(wishes, [OPEN] * len(wishes.names), found)
    return tuple(sorted(found))


def _try_mates(wishes, mates, found):
    """Adds all lasting pairings in which those who are decided on have these mates."""
    if OPEN not in mates:
        found.append(pairs_of_mates(mates))
        return
    person = mates.index(OPEN)
    for mate in wishes.lists[person] + (None,):
        if mate is None or mates[mate] == OPEN:
            _decide(mates, person, mate, mate, person)
            if not _is_blocked(wishes, mates, person):
                if mate is None or not _is_blocked(wishes, mates, mate):
                    _try_mates(wishes, mates, found)
            _decide(mates, person, OPEN, mate, OPEN)


def _decide(mates, person, mate, other, back):
    mates[person] = mate
    if other is not None:
        mates[other] = back


def _is_blocked(wishes, mates, person):
    """Whether a person blocks, together with one of those who are decided on."""
    for other in wishes.lists[person][:rank_of(wishes, person, mates[person])]:
        if mates[other] != OPEN and would_rather(wishes, other, person, mates[other]):
            return True
    return False
