"""The judge of partings: what is wrong with a value as a lasting parting."""

from lastpairs.errors import InvalidParting
from lastpairs.plainpartings import barring_pairs, check_parting, turned_persons


def parting_fault(wishes, value):
    """What is first wrong with a value as a lasting parting, or None."""
    try:
        check_parting(wishes, value)
    except InvalidParting as wrong:
        return "form", wrong.at
    turned = turned_persons(wishes, value)
    if turned:
        return "turned", turned[0]
    pairs = barring_pairs(wishes, value)
    return ("pair", pairs[0]) if pairs else None


def is_parting(wishes, value):
    """Whether a value is a lasting parting."""
    return parting_fault(wishes, value) is None
