"""What lasts between two lasting pairings, and the ways from one to the other."""

from lastpairs.plain import does_last, lasting_pairings, mates_in, pair_of
from lastpairs.turns import turns_before, whole_row
from lastpairs.wishes import rank_of


def is_between(wishes, one, other, value):
    """Whether a value is a lasting pairing between two."""
    return does_last(wishes, value) and _lies_between(wishes, one, other, value)


def _lies_between(wishes, one, other, pairing):
    rows = [_ranks_of_all(wishes, told) for told in (one, pairing, other)]
    return all([min(first, last) <= rank <= max(first, last) for first, rank, last in zip(rows[0], rows[1], rows[2])])


def _ranks_of_all(wishes, pairing):
    return [rank_of(wishes, person, mate) for person, mate in enumerate(mates_in(len(wishes.names), pairing))]


def all_between(wishes, one, other):
    """All lasting pairings between two, ascending."""
    return tuple([pairing for pairing in lasting_pairings(wishes) if _lies_between(wishes, one, other, pairing)])


def steps_between(wishes, one, other):
    """The least number of steps from one lasting pairing to another one."""
    return len(_turns_apart(wishes, whole_row(wishes), one, other))


def _turns_apart(wishes, turns, one, other):
    """Those of all turns that are before the one pairing and not before the other, mates as holds."""
    many = len(wishes.names)
    known = {turn: True for turn in turns_before(wishes, turns, mates_in(many, other))}
    return [turn for turn in turns_before(wishes, turns, mates_in(many, one)) if turn not in known]


def way_between(wishes, one, other):
    """Some way from one lasting pairing to another one, with no more steps than are needed."""
    way = [one]
    # In the sequence of a whole row the last turn is one on which no other one leans: it can be exchanged.
    for turn in reversed(_turns_apart(wishes, whole_row(wishes), one, other)):
        way.append(_stepped(way[-1], turn))
    return tuple(way)


def _stepped(pairing, turn):
    """The pairing behind the exchange of a turn for its opposite: each giver has its taker again."""
    givers = [giver for giver, _ in turn]
    kept = [pair for pair in pairing if pair[0] not in givers and pair[1] not in givers]
    return tuple(sorted(kept + [pair_of(giver, taker) for giver, taker in turn]))


def is_way_between(wishes, one, other, value):
    """Whether a value is some way from one lasting pairing to another one."""
    turns = whole_row(wishes)
    if not isinstance(value, tuple) or len(value) != len(_turns_apart(wishes, turns, one, other)) + 1:
        return False
    if not all([does_last(wishes, pairing) for pairing in value]) or value[0] != one or value[-1] != other:
        return False
    # As many steps as there are turns apart: each must be a single one.
    return all([len(_turns_apart(wishes, turns, value[at - 1], value[at])) == 1 for at in range(1, len(value))])
