"""Papers that no calm pairing has more pairs, and that no fewer persons can be away."""

from lastpairs.asides import aside_pairing
from lastpairs.calm import is_calm
from lastpairs.judge import is_parting
from lastpairs.kinds import is_lot_of_persons
from lastpairs.partings import odd_rings_in, parting_of, single_in_parting
from lastpairs.plain import blocking_pairs, is_pairing


class CalmPaper:
    """A calm pairing, and a lasting parting that shows that no calm pairing has more pairs."""

    def __init__(self, pairing, parting):
        self.pairing = pairing
        self.parting = parting


class AwayPaper:
    """Persons, a pairing of the others, and a lasting parting that shows that no fewer persons can be away."""

    def __init__(self, persons, pairing, parting):
        self.persons = persons
        self.pairing = pairing
        self.parting = parting


def calm_paper(wishes):
    """A right paper of a greatest calm pairing."""
    parting = parting_of(wishes)
    return CalmPaper(aside_pairing(parting, _first_aside(parting)), parting)


def _first_aside(parting):
    """The lot of the least persons of all odd rings."""
    return tuple([ring[0] for ring in odd_rings_in(parting)])


def is_calm_paper(wishes, value):
    """Whether a value is a right paper of a greatest calm pairing."""
    if not isinstance(value, CalmPaper) or not is_calm(wishes, value.pairing) or not is_parting(wishes, value.parting):
        return False
    lacking = len(single_in_parting(value.parting)) + len(odd_rings_in(value.parting))
    return 2 * len(value.pairing) == len(wishes.names) - lacking


def away_paper(wishes):
    """A right paper of fewest persons who are away."""
    parting = parting_of(wishes)
    persons = _first_aside(parting)
    return AwayPaper(persons, aside_pairing(parting, persons), parting)


def is_away_paper(wishes, value):
    """Whether a value is a right paper of fewest persons who are away."""
    if not isinstance(value, AwayPaper) or not is_lot_of_persons(value.persons, len(wishes.names)):
        return False
    if not is_parting(wishes, value.parting) or len(odd_rings_in(value.parting)) != len(value.persons):
        return False
    return is_pairing(wishes, value.pairing) and _lasts_without(wishes, value.pairing, value.persons)


def _lasts_without(wishes, pairing, persons):
    """Whether a pairing has nobody of some persons, and each pair that blocks it has somebody of them."""
    if any([one in persons or other in persons for one, other in pairing]):
        return False
    return all([one in persons or other in persons for one, other in blocking_pairs(wishes, pairing)])
