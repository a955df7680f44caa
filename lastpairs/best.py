"""The best of all lasting pairings: by the greatest rank, by the ranks of persons in an order, by the sum."""

from lastpairs.bounds import bars_within, ranks_of_pairing, within_paper
from lastpairs.kinds import is_tuple_of
from lastpairs.limits import lasting_in_order
from lastpairs.partings import lasting_pairing
from lastpairs.plain import does_last, lasting_pairings


def greatest_rank(wishes, pairing):
    """The greatest rank of a person, -1 without pairs."""
    return max(_ranks(wishes, pairing), default=-1)


def rank_sum(wishes, pairing):
    """The sum of all ranks."""
    return sum(_ranks(wishes, pairing))


def _ranks(wishes, pairing):
    return [rank for rank in ranks_of_pairing(wishes, pairing) if rank is not None]


def least_greatest(wishes):
    """A lasting pairing with the least greatest rank, or None if no pairing lasts."""
    paper = least_paper(wishes)
    return None if paper is None else paper.pairing


class LeastPaper:
    """A pairing, and a parting that shows that no lasting one has a lesser greatest rank."""

    def __init__(self, pairing, parting):
        self.pairing = pairing
        self.parting = parting

    def __eq__(self, other):
        return isinstance(other, LeastPaper) and (self.pairing, self.parting) == (other.pairing, other.parting)


def least_paper(wishes):
    """A right paper of a lasting pairing with the least greatest rank, or None if no pairing lasts."""
    pairing = lasting_pairing(wishes)
    if pairing is None:
        return None
    while greatest_rank(wishes, pairing) > 0:
        word, told = within_paper(wishes, _lesser_bounds(wishes, pairing))
        if word == "barred":
            return LeastPaper(pairing, told)
        pairing = told
    return LeastPaper(pairing, None)


def _lesser_bounds(wishes, pairing):
    """Bounds for a lesser greatest rank than that of a pairing."""
    bound = greatest_rank(wishes, pairing) - 1
    return tuple([None if rank is None else bound for rank in ranks_of_pairing(wishes, pairing)])


def is_least_paper(wishes, value):
    """Whether a value is a right paper of a lasting pairing with the least greatest rank."""
    if not isinstance(value, LeastPaper) or not does_last(wishes, value.pairing):
        return False
    if greatest_rank(wishes, value.pairing) <= 0:
        return value.parting is None
    return bars_within(wishes, _lesser_bounds(wishes, value.pairing), value.parting)


def favoured_pairing(wishes, order):
    """The lasting pairing that is ahead of all others for an order, or None if no pairing lasts."""
    first = lasting_in_order(wishes, order, 1)
    return first[0] if first else None


class FavouredPaper:
    """A pairing, and partings that show that no lasting one is ahead of it."""

    def __init__(self, pairing, partings):
        self.pairing = pairing
        self.partings = partings

    def __eq__(self, other):
        return isinstance(other, FavouredPaper) and (self.pairing, self.partings) == (other.pairing, other.partings)


def favoured_paper(wishes, order):
    """A right paper of the lasting pairing that is ahead of all others, or None if no pairing lasts."""
    pairing = favoured_pairing(wishes, order)
    if pairing is None:
        return None
    rows = _bounds_ahead(wishes, order, pairing)
    return FavouredPaper(pairing, tuple([within_paper(wishes, bounds)[1] for bounds in rows]))


def _bounds_ahead(wishes, order, pairing):
    """For each person of a rank above 0, in the order, the bounds of all that is ahead of a pairing by this person."""
    ranks = ranks_of_pairing(wishes, pairing)
    bounds = [None] * len(ranks)
    rows = []
    for person in order:
        if ranks[person] is not None and ranks[person] > 0:
            bounds[person] = ranks[person] - 1
            rows.append(tuple(bounds))
        bounds[person] = ranks[person]
    return rows


def is_favoured_paper(wishes, order, value):
    """Whether a value is a right paper of the lasting pairing that is ahead of all others."""
    if not isinstance(value, FavouredPaper) or not does_last(wishes, value.pairing):
        return False
    rows = _bounds_ahead(wishes, order, value.pairing)
    if not is_tuple_of(value.partings, len(rows)):
        return False
    return all([bars_within(wishes, bounds, parting) for bounds, parting in zip(rows, value.partings)])


def least_sum(wishes):
    """A lasting pairing with the least sum of ranks, or None if no pairing lasts."""
    return min(lasting_pairings(wishes), key=lambda pairing: rank_sum(wishes, pairing), default=None)
