"""The parting that comes about when somebody comes, and papers of what this changes."""

from lastpairs.among import is_parting_among, odd_parts, wishes_among
from lastpairs.arrivals import askings
from lastpairs.partings import parting_of, split_parting
from lastpairs.rings import ring_from
from lastpairs.turningout import holds_by_parting
from lastpairs.wishes import best_of


def parting_with(wishes, here, parting, person):
    """The parting that comes about when a person comes."""
    split = split_parting(parting)
    row, word, freed, holds = askings(wishes, here, parting, person)
    mended = list(split)
    for one in freed[:-1]:
        _pair(mended, one, holds[one])
    free = freed[-1]
    mended[free] = free
    if word == "ring":
        _close(mended, _ring_told_back(wishes, row, holds_by_parting(split), holds))
    if word == "broken":
        pair_rest(mended, ring_from(split, row[-1][1]))
    if word in ("single", "broken"):
        _pair(mended, free, row[-1][1])
    return tuple(mended)


def _pair(mended, one, other):
    mended[one] = other
    mended[other] = one


def pair_rest(mended, ring):
    """Pairs all of an odd ring but its first person, from the next one on; the first one is single."""
    mended[ring[0]] = ring[0]
    for at in range(1, len(ring), 2):
        _pair(mended, ring[at], ring[at + 1])


def _close(mended, ring):
    """Makes a ring, which is told from each person to the one before it."""
    for at, person in enumerate(ring):
        mended[person] = ring[at - 1]


def _ring_told_back(wishes, row, before, holds):
    """The ring at the end of the askings, from the free one on, each time to the one before."""
    free, one = row[-1]
    ring = [free]
    while one != free:
        held = holds[one]
        ring.extend([one, held])
        gone = [asker for asker, other in row if other == held and asker != one]
        one = best_of(wishes, held, gone + [before[held]])
    return ring


class ComingPaper:
    """A parting among those here, and one among them and a person who comes."""

    def __init__(self, parting, mended):
        self.parting = parting
        self.mended = mended


def coming_paper(wishes, here, person):
    """A right paper for a person who comes."""
    parting = parting_of(wishes_among(wishes, here))
    return ComingPaper(parting, parting_with(wishes, here, parting, person))


def is_coming_paper(wishes, here, person, value):
    """Whether a value is a right paper for a person who comes."""
    if not isinstance(value, ComingPaper) or not is_parting_among(wishes, here, value.parting):
        return False
    return is_parting_among(wishes, with_one(here, person), value.mended)


def with_one(here, person):
    """Those here, and one more."""
    return tuple(sorted(here + (person,)))


def change_by(here, person, paper):
    """The odd part that there is more, or less, by a right paper for a person who comes."""
    return change_between(odd_parts(here, paper.parting), odd_parts(with_one(here, person), paper.mended))


def change_between(parts, others):
    """The odd part that is in just one of two tuples of odd parts."""
    for part in others:
        if part not in parts:
            return "more", part
    return "less", [part for part in parts if part not in others][0]


def changed_part(wishes, here, person):
    """The odd part that there is more, or less, when a person comes."""
    return change_by(here, person, coming_paper(wishes, here, person))
