"""The turns of wishes by their places, and what follows if some of them are chosen.

A lot of turns is told by one number here, which is called chosen: it has the bits of the places of the
turns in the lot. So two lots are joined, or compared, by one sign, however many turns they have.
"""

from lastpairs.firm import held_by
from lastpairs.kinds import are_rows_of_persons
from lastpairs.order import lean_rows
from lastpairs.proposals import asked_out
from lastpairs.turningout import pairs_apart
from lastpairs.turns import opposite_turn, whole_row


class TurnTable:
    """All turns, ascending, and by their places what the document says of them."""

    def __init__(self, wishes):
        self.wishes = wishes
        self.first = asked_out(wishes)
        self.row = whole_row(wishes)
        self.turns = tuple(sorted(self.row))
        self.places = {turn: place for place, turn in enumerate(self.turns)}
        self.at_pair = {pair: place for place, turn in enumerate(self.turns) for pair in turn}
        self.opposites = tuple([self.places[opposite_turn(turn)] for turn in self.turns])
        self.leans = lean_rows(wishes, self.turns)
        # Each turn with all that it needs, itself, too.
        self.needs = _needs_of([self.places[turn] for turn in self.row], self.leans)
        self.sure = _sure_of(self.needs, self.opposites)
        self.choices = _choices_of(self.needs, self.opposites)


def _needs_of(order, leans):
    needs = [0] * len(leans)
    # In a whole row each turn stands behind all that it needs.
    for place in order:
        needs[place] = 1 << place
        for other in leans[place]:
            needs[place] |= needs[other]
    return tuple(needs)


def has_turn(chosen, place):
    """Whether a lot has the turn of a place."""
    return chosen >> place & 1 == 1


def _are_never(needs, opposites):
    """For each turn whether it needs its opposite, or is it: then no steady holds have it."""
    return [has_turn(some, opposite) for some, opposite in zip(needs, opposites)]


def _sure_of(needs, opposites):
    """All turns whose opposites no steady holds have, but not they themselves."""
    never = _are_never(needs, opposites)
    return sum([1 << place for place, opposite in enumerate(opposites) if never[opposite] and not never[place]])


def _choices_of(needs, opposites):
    """All pairs of turns that are opposites, and that some steady holds have, the lesser one first."""
    never = _are_never(needs, opposites)
    pairs = [(place, other) for place, other in enumerate(opposites) if place < other]
    return tuple([(place, other) for place, other in pairs if not never[place] and not never[other]])


def places_in(chosen):
    """The places of all turns in a lot, ascending."""
    places = []
    while chosen:
        lowest = chosen & -chosen
        places.append(lowest.bit_length() - 1)
        chosen -= lowest
    return places


def lot_of(table, chosen):
    """The lot that a number tells."""
    return tuple([table.turns[place] for place in places_in(chosen)])


def chosen_of(table, turns):
    """The number that tells these turns."""
    chosen = 0
    for turn in turns:
        chosen |= 1 << table.places[turn]
    return chosen


def with_all_needed(table, turns):
    """The number that tells these turns, and all that they need."""
    chosen = 0
    for turn in turns:
        chosen |= table.needs[table.places[turn]]
    return chosen


def are_table_turns(table, value):
    """Whether a value is a tuple of turns, perhaps the same one twice."""
    many = len(table.wishes.names)
    if not isinstance(value, tuple) or not all([are_rows_of_persons(ring, many) for ring in value]):
        return False
    return all([ring in table.places for ring in value])


def is_lot_of_turns(table, value):
    """Whether a value is a lot of turns."""
    return are_table_turns(table, value) and all([value[at - 1] < value[at] for at in range(1, len(value))])


def is_closed_lot(table, value):
    """Whether a value is a closed lot of turns."""
    return is_lot_of_turns(table, value) and with_all_needed(table, value) == chosen_of(table, value)


def is_in_conflict(table, chosen):
    """Whether a lot has some turn and its opposite, perhaps the same one."""
    return any([has_turn(chosen, table.opposites[place]) for place in places_in(chosen)])


def is_steady_lot(table, value):
    """Whether a value is a closed lot in which no turn is with its opposite, nor one that is its own."""
    return is_closed_lot(table, value) and not is_in_conflict(table, chosen_of(table, value))


def has_odd_turns(table):
    """Whether there are turns that are their own opposites."""
    return any([place == opposite for place, opposite in enumerate(table.opposites)])


def is_still_open(chosen, choice):
    """Whether a lot has neither turn of a choice."""
    return not has_turn(chosen, choice[0]) and not has_turn(chosen, choice[1])


def completed_by(table, chosen, place):
    """A closed lot without conflict, completed: of each choice still open the turn at this place, 0 or 1."""
    chosen |= table.sure
    for choice in table.choices:
        if is_still_open(chosen, choice):
            chosen |= table.needs[choice[place]]
    return chosen


def chosen_after(table, chosen):
    """The complete lot that comes next behind a complete lot, or None."""
    before = table.sure
    found = None
    for choice in table.choices:
        if is_still_open(before, choice):
            # The later the first choice that is made in another way, the less the lot changes.
            if has_turn(chosen, choice[0]):
                found = before | table.needs[choice[1]]
                before |= table.needs[choice[0]]
            else:
                before |= table.needs[choice[1]]
    return None if found is None else completed_by(table, found, 0)


def holds_by_chosen(table, chosen):
    """The firm holds of a closed lot."""
    holds = list(table.first)
    for turn in table.row:
        if has_turn(chosen, table.places[turn]):
            for at, (_, taker) in enumerate(turn):
                holds[taker] = turn[at - 1][0]
    return tuple(holds)


def parting_by_chosen(table, chosen):
    """The lasting parting of a complete lot."""
    holders = held_by(holds_by_chosen(table, chosen))
    return tuple([person if holder is None else holder for person, holder in enumerate(holders)])


def pairing_by_chosen(table, chosen):
    """The lasting pairing of a complete lot without odd turns."""
    return pairs_apart(parting_by_chosen(table, chosen))


def chain_in(table, person):
    """Those who hold a person one after another, from the greatest firm holds to their mirror."""
    if table.first[person] is None:
        return ()
    takers = [taker for turn in table.row for giver, taker in turn if giver == person]
    # In the mirror those hold a person whom it holds at first.
    return tuple(takers) + (table.first[person],)


def places_between(table, one, other):
    """The places of the turns that the one has with the other, and the other with the one, if there are some."""
    return [table.at_pair[pair] for pair in ((one, other), (other, one)) if pair in table.at_pair]


def joined(table, chosen, places):
    """A closed lot without conflict with more turns, and all that they need, or None if this brings a conflict."""
    for place in places:
        # If anything that it needs is in conflict with what is chosen, so is the turn itself.
        if has_turn(chosen | table.needs[place], table.opposites[place]):
            return None
        chosen |= table.needs[place]
    return chosen


def wanted_for_pair(table, one, other):
    """The places of turns such that two persons, one on the other's chain, are mates if these are in the lot."""
    return [table.opposites[place] for place in places_between(table, one, other)]


def possible_mates(table, person):
    """All that a person has in lasting pairings, if there are any, the best one first."""
    mates = []
    for mate in chain_in(table, person):
        if joined(table, table.sure, wanted_for_pair(table, person, mate)) is not None:
            mates.append(mate)
    return tuple(mates)
