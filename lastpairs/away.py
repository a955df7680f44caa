"""Persons who are away, so that there is a lasting pairing of the others."""

from itertools import combinations
from math import comb

from lastpairs.among import wishes_among
from lastpairs.errors import Refused
from lastpairs.kinds import is_lot_of_persons
from lastpairs.partings import lasting_pairing, odd_rings

MOST_LOTS = 2000


def others_pairing(wishes, persons):
    """A lasting pairing of all others than a lot of persons, or None."""
    others = tuple([person for person in range(len(wishes.names)) if person not in persons])
    # Among the others alone, those who are away have empty lists, and so are single.
    return lasting_pairing(wishes_among(wishes, others))


def is_away(wishes, value):
    """Whether a value is a lot of persons behind whose leaving there is a lasting pairing."""
    return is_lot_of_persons(value, len(wishes.names)) and others_pairing(wishes, value) is not None


def fewest_away(wishes):
    """The least number of persons who are away."""
    return len(odd_rings(wishes))


def least_aways(wishes):
    """All lots of the fewest persons who are away."""
    return _aways_of(wishes, fewest_away(wishes))


def _aways_of(wishes, many):
    persons = len(wishes.names)
    if comb(persons, many) > MOST_LOTS:
        raise Refused("size")
    return tuple([lot for lot in combinations(range(persons), many) if is_away(wishes, lot)])
