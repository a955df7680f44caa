"""Bounds: the greatest ranks that persons put up with, and what bars them."""

from lastpairs.judge import is_parting
from lastpairs.kinds import is_tuple_of
from lastpairs.partings import odd_rings_in, pairing_by, parting_of, single_in_parting
from lastpairs.plain import does_last, mates_in
from lastpairs.remade import without_pairs
from lastpairs.wishes import pairs_in, rank_of


def ranks_of_pairing(wishes, pairing):
    """The ranks of all persons in a pairing, None for single ones."""
    mates = mates_in(len(wishes.names), pairing)
    return tuple([None if mate is None else rank_of(wishes, person, mate) for person, mate in enumerate(mates)])


def is_within(wishes, bounds, pairing):
    """Whether a pairing is within bounds."""
    for rank, bound in zip(ranks_of_pairing(wishes, pairing), bounds):
        if bound is not None and (rank is None or rank > bound):
            return False
    return True


def cut_wishes(wishes, bounds):
    """The wishes without all pairs that are beyond the bound of one of the two."""
    beyond = []
    for one, other in pairs_in(wishes):
        if _is_beyond(wishes, bounds, one, other) or _is_beyond(wishes, bounds, other, one):
            beyond.append((one, other))
    return without_pairs(wishes, tuple(beyond))


def _is_beyond(wishes, bounds, person, other):
    return bounds[person] is not None and rank_of(wishes, person, other) > bounds[person]


def pairing_within(wishes, bounds):
    """A lasting pairing within bounds, or None."""
    word, told = within_paper(wishes, bounds)
    return told if word == "within" else None


def bars_within(wishes, bounds, value):
    """Whether a value bars bounds."""
    return is_parting(cut_wishes(wishes, bounds), value) and _does_bar(bounds, value)


def _does_bar(bounds, parting):
    """Whether a lasting parting of the cut wishes has an odd ring, or a single person with a bound."""
    if odd_rings_in(parting):
        return True
    return any([bounds[person] is not None for person in single_in_parting(parting)])


def within_paper(wishes, bounds):
    """A lasting pairing within bounds, or a parting that bars them."""
    parting = parting_of(cut_wishes(wishes, bounds))
    if _does_bar(bounds, parting):
        return "barred", parting
    return "within", pairing_by(parting)


def is_within_paper(wishes, bounds, value):
    """Whether a value is a right paper for bounds."""
    if not is_tuple_of(value, 2) or not isinstance(value[0], str):
        return False
    if value[0] == "within":
        return does_last(wishes, value[1]) and is_within(wishes, bounds, value[1])
    return value[0] == "barred" and bars_within(wishes, bounds, value[1])
