"""Partings, and which of them last: all found by trying."""

from lastpairs.errors import InvalidParting, Refused
from lastpairs.kinds import is_below, is_tuple_of
from lastpairs.plain import mates_in
from lastpairs.rings import all_rings, ring_from
from lastpairs.wishes import is_wished, rank_of, ranks_in, would_rather

MOST_PERSONS = 8

# The one before, or behind, that is not yet known while partings are tried.
OPEN = -1


def check_parting(wishes, value):
    """Raises an error if a value is no parting."""
    many = len(wishes.names)
    if not is_tuple_of(value, many):
        raise InvalidParting(-1)
    taken = {}
    for person, follower in enumerate(value):
        if not is_below(follower, many) or follower in taken:
            raise InvalidParting(person)
        if follower != person and not is_wished(wishes, person, follower):
            raise InvalidParting(person)
        taken[follower] = True


def before_in(parting):
    """For each person the one before it on its ring."""
    before = [None] * len(parting)
    for person, follower in enumerate(parting):
        before[follower] = person
    return tuple(before)


def rings_of(parting):
    """All rings of a parting, by their least persons."""
    return all_rings(parting)


def turned_persons(wishes, parting):
    """All who would rather have the one before them than the next one."""
    turned = []
    for person, (one, follower) in enumerate(zip(before_in(parting), parting)):
        if one != person and would_rather(wishes, person, one, follower):
            turned.append(person)
    return tuple(turned)


def barring_pairs(wishes, parting):
    """All pairs who would rather have one another than those before them."""
    ranks = ranks_in(wishes)
    most = [rank_beside(wishes, person, one) for person, one in enumerate(before_in(parting))]
    pairs = []
    for person, some in enumerate(wishes.lists):
        for other in some[:most[person]]:
            if person < other and ranks[other][person] < most[other]:
                pairs.append((person, other))
    return tuple(sorted(pairs))


def rank_beside(wishes, person, other):
    """The rank of the one before a person, or the next one: of nobody if it is the person itself."""
    return rank_of(wishes, person, None if other == person else other)


def is_lasting_parting(wishes, parting):
    """Whether a parting lasts."""
    return not turned_persons(wishes, parting) and not barring_pairs(wishes, parting)


def lasting_partings(wishes):
    """All lasting partings, ascending."""
    many = len(wishes.names)
    if many > MOST_PERSONS:
        raise Refused("size")
    found = []
    _try_followers(wishes, [], [OPEN] * many, found)
    return tuple(found)


def _try_followers(wishes, parting, before, found):
    """Adds all lasting partings that begin with the next ones of some persons."""
    person = len(parting)
    if person == len(before):
        if is_lasting_parting(wishes, tuple(parting)):
            found.append(tuple(parting))
        return
    for follower in sorted(wishes.lists[person] + (person,)):
        if before[follower] == OPEN:
            before[follower] = person
            if not _is_barred(wishes, before, follower):
                _try_followers(wishes, parting + [follower], before, found)
            before[follower] = OPEN


def _is_barred(wishes, before, person):
    """Whether a person is in a barring pair with another one whose one before is known, too."""
    for other in wishes.lists[person][:rank_beside(wishes, person, before[person])]:
        if before[other] != OPEN and rank_of(wishes, other, person) < rank_beside(wishes, other, before[other]):
            return True
    return False


def paired_parting(wishes, pairing):
    """The parting whose rings are the pairs and the single persons of a pairing."""
    mates = mates_in(len(wishes.names), pairing)
    return tuple([person if mate is None else mate for person, mate in enumerate(mates)])


def split_ring(parting, person):
    """The parting in which a person's ring falls into pairs, the first one with its next one."""
    ring = ring_from(parting, person)
    if len(ring) & 1 == 1:
        raise Refused("ring")
    after = list(parting)
    for at in range(1, len(ring), 2):
        after[ring[at]] = ring[at - 1]
    return tuple(after)
