"""Calm pairings: nobody in a pair blocks them with somebody in a pair."""

from lastpairs.partings import odd_rings_in, parting_of, single_in_parting
from lastpairs.plain import blocking_pairs, is_pairing


def paired_persons(pairing):
    """All persons in pairs."""
    return tuple(sorted([person for pair in pairing for person in pair]))


def calm_blocks(wishes, pairing):
    """The pairs who block a pairing and are both in pairs of it."""
    paired = paired_persons(pairing)
    return tuple([(one, other) for one, other in blocking_pairs(wishes, pairing) if one in paired and other in paired])


def is_calm(wishes, value):
    """Whether a value is a calm pairing."""
    return is_pairing(wishes, value) and not calm_blocks(wishes, value)


def most_calm(wishes):
    """The greatest number of pairs of a calm pairing."""
    parting = parting_of(wishes)
    return (len(parting) - len(single_in_parting(parting)) - len(odd_rings_in(parting))) // 2
