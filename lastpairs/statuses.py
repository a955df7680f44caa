"""Papers of wishes: a lasting pairing, a ring that bars them all, or what a person is in all lasting partings."""

from lastpairs.judge import is_parting
from lastpairs.kinds import are_persons, is_below
from lastpairs.partings import odd_rings_in, pairing_by, parting_of
from lastpairs.plain import does_last
from lastpairs.rings import ring_from


class PairingPaper:
    """A pairing, right if it lasts."""

    def __init__(self, pairing):
        self.pairing = pairing


class RingPaper:
    """A parting and a ring, right if the parting lasts and the ring is one of its odd rings."""

    def __init__(self, parting, ring):
        self.parting = parting
        self.ring = ring


class StatusPaper:
    """A person, what it is, and a parting that shows this, right if the parting lasts."""

    def __init__(self, person, status, parting):
        self.person = person
        self.status = status
        self.parting = parting


def wishes_paper(wishes):
    """A right paper: of a lasting pairing, or of a ring that bars them all."""
    parting = parting_of(wishes)
    rings = odd_rings_in(parting)
    if rings:
        return RingPaper(parting, rings[0])
    return PairingPaper(pairing_by(parting))


def is_pairing_paper(wishes, value):
    """Whether a value is a right paper of a pairing."""
    return isinstance(value, PairingPaper) and does_last(wishes, value.pairing)


def is_ring_paper(wishes, value):
    """Whether a value is a right paper of a ring."""
    if not isinstance(value, RingPaper) or not is_parting(wishes, value.parting):
        return False
    return are_persons(value.ring, len(wishes.names)) and value.ring in odd_rings_in(value.parting)


def status_in(parting, person):
    """What a person is in a parting: single, or on an odd or even ring."""
    many = len(ring_from(parting, person))
    if many == 1:
        return "single"
    return "odd" if many & 1 == 1 else "even"


def status_paper(wishes, person):
    """A right paper of what a person is."""
    parting = parting_of(wishes)
    return StatusPaper(person, status_in(parting, person), parting)


def is_status_paper(wishes, value):
    """Whether a value is a right paper of what a person is."""
    if not isinstance(value, StatusPaper) or not is_parting(wishes, value.parting):
        return False
    if not is_below(value.person, len(wishes.names)) or not isinstance(value.status, str):
        return False
    return value.status == status_in(value.parting, value.person)
