"""Settling a lodging: a pairing that lasts, or a parting that shows that there is none."""

from lastpairs.judge import is_parting
from lastpairs.kinds import is_tuple_of
from lastpairs.partings import odd_rings_in, pairing_by, parting_of
from lastpairs.plain import does_last, is_lasting


def settling(lodging):
    """The pairing in force if it lasts, some other lasting one, or a parting with an odd ring."""
    if is_lasting(lodging.wishes, lodging.pairing):
        return "settle", lodging.pairing
    parting = parting_of(lodging.wishes)
    if odd_rings_in(parting):
        return "ring", parting
    return "settle", pairing_by(parting)


def is_settling(wishes, value):
    """Whether a value tells of a pairing that lasts, or of a lasting parting with an odd ring."""
    if not is_tuple_of(value, 2) or not isinstance(value[0], str):
        return False
    if value[0] == "settle":
        return does_last(wishes, value[1])
    return value[0] == "ring" and is_parting(wishes, value[1]) and bool(odd_rings_in(value[1]))
