"""All persons come, one after another."""

from lastpairs.arrivals import coming_row
from lastpairs.mended import parting_with, with_one


def parting_by_comings(wishes, order):
    """The parting when all persons have come one after another."""
    return _all_come(wishes, order)[0]


def askings_by(wishes, order):
    """For each person, as they come one after another, how many askings there are."""
    return _all_come(wishes, order)[1]


def _all_come(wishes, order):
    here = ()
    parting = tuple(range(len(wishes.names)))
    lengths = []
    for person in order:
        lengths.append(len(coming_row(wishes, here, parting, person)))
        parting = parting_with(wishes, here, parting, person)
        here = with_one(here, person)
    return parting, tuple(lengths)
