"""Somebody comes: who asks whom until a lasting parting is there again."""

from lastpairs.kinds import are_rows_of_persons
from lastpairs.partings import odd_rings_in, split_parting
from lastpairs.turningout import holds_by_parting
from lastpairs.wishes import rank_of, would_rather


def coming_row(wishes, here, parting, person):
    """All askings when a person comes."""
    return askings(wishes, here, parting, person)[0]


def coming_end(wishes, here, parting, person):
    """The word of the end of the askings."""
    return askings(wishes, here, parting, person)[1]


def freed_persons(wishes, here, parting, person):
    """All who have been free in the askings."""
    return tuple(sorted(set(askings(wishes, here, parting, person)[2])))


def is_coming_row(wishes, here, parting, person, value):
    """Whether a value is the row of all askings."""
    return are_rows_of_persons(value, len(wishes.names)) and value == coming_row(wishes, here, parting, person)


def askings(wishes, here, parting, person):
    """The askings, the word of their end, all who were free, one after another, and the holds at the end."""
    odd = [member for ring in odd_rings_in(parting) for member in ring]
    holds = list(holds_by_parting(split_parting(parting)))
    row = []
    freed = [person]
    at = 0
    word = None
    while word is None:
        free = freed[-1]
        asked = [other for other in wishes.lists[free][at:] if other in here or other == person]
        taker = _asked_until_taken(wishes, holds, row, free, asked)
        word = _end_at(taker, holds, freed, odd)
        if word is None:
            freed.append(holds[taker])
            holds[taker] = free
            holds[free] = taker
            at = rank_of(wishes, freed[-1], taker) + 1
    return tuple(row), word, tuple(freed), tuple(holds)


def _asked_until_taken(wishes, holds, row, free, asked):
    """Adds the askings of the free one to a row, and returns who takes it, or None."""
    for other in asked:
        row.append((free, other))
        if would_rather(wishes, other, free, holds[other]):
            return other
    return None


def _end_at(taker, holds, freed, odd):
    """The word of the end, or None if the askings go on."""
    if taker is None:
        return "alone"
    if taker in freed:
        return "ring"
    if holds[taker] is None:
        return "single"
    return "broken" if taker in odd else None
