"""Why a lasting pairing leaves no odd ring in a lasting parting."""

from lastpairs.plain import mates_in, pair_of
from lastpairs.plainpartings import before_in
from lastpairs.wishes import would_rather


def neighbour_couples(wishes, parting, pairing):
    """The neighbours into whom a lasting pairing couples all who are on rings of a lasting parting."""
    before = before_in(parting)
    mates = mates_in(len(parting), pairing)
    couples = []
    for person, follower in enumerate(parting):
        if follower != person:
            couples.append(pair_of(person, _coupled(wishes, person, follower, before[person], mates[person])))
    return tuple(sorted(set(couples)))


def _coupled(wishes, person, follower, one, mate):
    """With whom a person is a pair: its next one, the one before it, or its mate."""
    if would_rather(wishes, person, mate, follower):
        return follower
    if would_rather(wishes, person, one, mate):
        return one
    return mate
