"""All turns: the rings that are turned over from the greatest firm holds to their mirror."""

from lastpairs.errors import Refused
from lastpairs.firm import firm_rings, held_by, is_ring_of, turned_over
from lastpairs.kinds import are_rows_of_persons
from lastpairs.proposals import asked_out
from lastpairs.rings import from_least
from lastpairs.wishes import rank_of


def whole_row(wishes):
    """Rings turned over one after another, from the greatest firm holds to their mirror."""
    holds = asked_out(wishes)
    row = ()
    rings = firm_rings(wishes, holds)
    while rings:
        row = row + rings
        # Turning over one ring leaves the others rings.
        for ring in rings:
            holds = turned_over(holds, ring)
        rings = firm_rings(wishes, holds)
    return row


def is_whole_row(wishes, value):
    """Whether a value is a tuple of rings that can be turned over, from the greatest firm holds to their mirror."""
    if not are_turns(wishes, value) or tuple(sorted(value)) != all_turns(wishes):
        return False
    return _holds_behind(wishes, value) is not None


def are_turns(wishes, value):
    """Whether a value is a tuple of turns, perhaps the same one twice."""
    many = len(wishes.names)
    if not isinstance(value, tuple) or not all([are_rows_of_persons(ring, many) for ring in value]):
        return False
    known = {turn: True for turn in whole_row(wishes)}
    return all([ring in known for ring in value])


def _holds_behind(wishes, turns):
    """The holds when turns have been turned over one after another, or None if one is no ring when it comes."""
    holds = asked_out(wishes)
    for turn in turns:
        if not is_ring_of(wishes, holds, turn):
            return None
        holds = turned_over(holds, turn)
    return holds


def all_turns(wishes):
    """The lot of all turns."""
    return tuple(sorted(whole_row(wishes)))


def opposite_turn(ring):
    """The turn that undoes a turn in the mirror of holds."""
    return from_least(tuple([(taker, ring[at - 1][0]) for at, (_, taker) in enumerate(ring)]))


def turns_of(wishes, holds):
    """The lot of the turns that are turned over on the way to firm holds."""
    return turns_before(wishes, all_turns(wishes), holds)


def turns_before(wishes, turns, holds):
    """Those of some turns whose first giver has come to a holder behind its taker."""
    holders = held_by(holds)
    lot = []
    for turn in turns:
        giver, taker = turn[0]
        if rank_of(wishes, giver, holders[giver]) > rank_of(wishes, giver, taker):
            lot.append(turn)
    return tuple(lot)


def holds_of_turns(wishes, turns):
    """The firm holds with just these turns."""
    if not are_turns(wishes, turns) or not all([turns[at - 1] < turns[at] for at in range(1, len(turns))]):
        raise Refused("turns")
    chosen = {turn: True for turn in turns}
    # Turns that come one after another in some way come so in the sequence of each whole row.
    holds = _holds_behind(wishes, [turn for turn in whole_row(wishes) if turn in chosen])
    if holds is None:
        raise Refused("turns")
    return holds
