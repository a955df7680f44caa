"""The order of turns: which of them lean on which, and which need which."""

from lastpairs.turns import all_turns, are_turns
from lastpairs.wishes import rank_of


def does_lean(wishes, turn, other):
    """Whether a turn leans on another one."""
    changes = _changes_by(other)
    for step in _steps_of(turn):
        if any([_leads_to(wishes, change, step) for change in changes]):
            return True
    return False


def _steps_of(turn):
    """For each giver: it, its taker, and the next taker."""
    return [(turn[at - 1][0], turn[at - 1][1], taker) for at, (_, taker) in enumerate(turn)]


def _changes_by(turn):
    """For each next taker: it, whom it holds behind a turn, and whom it held before."""
    return [(taker, turn[at - 1][0], giver) for at, (giver, taker) in enumerate(turn)]


def _leads_to(wishes, change, step):
    """Whether a giver's step can only come behind a holder's change."""
    holder, now, then = change
    giver, taker, follower = step
    if holder == taker:
        return now == giver
    if rank_of(wishes, giver, holder) is None:
        return False
    if not rank_of(wishes, giver, taker) < rank_of(wishes, giver, holder) < rank_of(wishes, giver, follower):
        return False
    return rank_of(wishes, holder, now) < rank_of(wishes, holder, giver) < rank_of(wishes, holder, then)


def lean_rows(wishes, turns):
    """For each of all turns the places of those that it leans on, ascending."""
    causes = _causes(wishes, turns)
    rows = []
    for turn in turns:
        places = []
        for giver, taker, follower in _steps_of(turn):
            first, last = rank_of(wishes, giver, taker), rank_of(wishes, giver, follower)
            holders = wishes.lists[giver][first + 1:last]
            places.extend([causes[(holder, giver)] for holder in holders if (holder, giver) in causes])
            if (taker, giver) in causes:
                places.append(causes[(taker, giver)])
        rows.append(tuple(sorted(set(places))))
    return tuple(rows)


def _causes(wishes, turns):
    """For each holder, and each one whom it comes to hold or passes over by a turn, the place of this turn."""
    # Holders only ever get better ones, so there is just one such turn.
    causes = {}
    for place, turn in enumerate(turns):
        for holder, now, then in _changes_by(turn):
            best, worst = rank_of(wishes, holder, now), rank_of(wishes, holder, then)
            for passed in wishes.lists[holder][best:worst]:
                causes[(holder, passed)] = place
    return causes


def lean_pairs(wishes):
    """All pairs of turns of which the first leans on the second."""
    turns = all_turns(wishes)
    rows = lean_rows(wishes, turns)
    return tuple([(turns[at], turns[place]) for at, row in enumerate(rows) for place in row])


def need_pairs(wishes):
    """All pairs of turns of which the first needs the second."""
    turns = all_turns(wishes)
    rows = lean_rows(wishes, turns)
    pairs = []
    for at, turn in enumerate(turns):
        needed = sorted([place for place in _reached(rows, at) if place != at])
        pairs.extend([(turn, turns[place]) for place in needed])
    return tuple(pairs)


def _reached(rows, first):
    """For each place that is reached from a first one the place before it on a shortest chain."""
    before = {first: None}
    waiting = [first]
    while waiting:
        found = []
        for at in waiting:
            for place in rows[at]:
                if place not in before:
                    before[place] = at
                    found.append(place)
        waiting = found
    return before


def need_chain(wishes, turn, other):
    """A shortest tuple of turns from one to another one, each leaning on the next one, or None."""
    turns = all_turns(wishes)
    before = _reached(lean_rows(wishes, turns), turns.index(turn))
    place = turns.index(other)
    if place not in before:
        return None
    chain = []
    while place is not None:
        chain.append(turns[place])
        place = before[place]
    return tuple(chain[::-1])


def is_need_chain(wishes, value):
    """Whether a value is a tuple of turns, one at least, each leaning on the next one."""
    if not are_turns(wishes, value) or not value:
        return False
    return all([does_lean(wishes, value[at - 1], value[at]) for at in range(1, len(value))])
