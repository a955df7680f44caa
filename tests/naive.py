"""What the document says, word for word and without haste, to hold the program against."""

from functools import wraps
from itertools import permutations, product


def kept(call):
    """Keeps what was found for some wishes, as it is asked for again and again."""
    known = {}

    @wraps(call)
    def found(wishes):
        if wishes.lists not in known:
            if len(known) > 2000:
                known.clear()
            known[wishes.lists] = call(wishes)
        return known[wishes.lists]

    return found


def is_number(value):
    return type(value) is int and value >= 0


def is_name(value):
    return type(value) is str and 1 <= len(value) <= 6 and set(value) <= set("abcdefghijklmnopqrstuvwxyz")


def rank(wishes, person, other):
    some = wishes.lists[person]
    return len(some) if other is None else some.index(other)


def rather(wishes, person, one, other):
    return rank(wishes, person, one) < rank(wishes, person, other)


def persons(wishes):
    return range(len(wishes.names))


def pairs(wishes):
    return [(i, j) for i in persons(wishes) for j in persons(wishes) if i < j and j in wishes.lists[i]]


def are_pairs_apart(some):
    flat = [person for pair in some for person in pair]
    return len(flat) == len(set(flat))


def is_pairing(wishes, value):
    if type(value) is not tuple:
        return False
    for pair in value:
        if type(pair) is not tuple or len(pair) != 2 or not all(is_number(person) for person in pair):
            return False
        if pair not in pairs(wishes):
            return False
    return list(value) == sorted(value) and are_pairs_apart(value)


def mate(pairing, person):
    for pair in pairing:
        if person in pair:
            return pair[0] + pair[1] - person
    return None


def pairings(wishes):
    found = [()]
    for pair in pairs(wishes):
        found += [some + (pair,) for some in found if are_pairs_apart(some + (pair,))]
    return sorted(tuple(sorted(some)) for some in found)


def blocks(wishes, pairing):
    return tuple(
        (i, j)
        for i, j in pairs(wishes)
        if rather(wishes, i, j, mate(pairing, i)) and rather(wishes, j, i, mate(pairing, j))
    )


def lasting(wishes):
    return tuple(some for some in pairings(wishes) if not blocks(wishes, some))


def is_parting(wishes, value):
    if type(value) is not tuple or len(value) != len(wishes.names):
        return False
    if not all(is_number(other) for other in value) or sorted(value) != list(persons(wishes)):
        return False
    return all(other == person or other in wishes.lists[person] for person, other in enumerate(value))


def partings(wishes):
    return [some for some in permutations(persons(wishes)) if is_parting(wishes, some)]


def before(parting, person):
    """The one before a person, None for nobody."""
    return None if parting[person] == person else parting.index(person)


def does_parting_last(wishes, parting):
    """Of chapter 2: also for persons not next to one another alone."""
    for i in persons(wishes):
        if parting[i] != i and rather(wishes, i, before(parting, i), parting[i]):
            return False
        for j in wishes.lists[i]:
            beside = parting[i] == j or parting[j] == i
            if not beside and rather(wishes, i, j, before(parting, i)) and rather(wishes, j, i, before(parting, j)):
                return False
    return True


def lasting_partings(wishes):
    return tuple(some for some in partings(wishes) if does_parting_last(wishes, some))


def all_holds(wishes):
    return product(*[some + (None,) for some in wishes.lists])


def is_left(wishes, holds, i, j):
    if j not in wishes.lists[i]:
        return False
    return not rather(wishes, i, holds[i], j) and not rather(wishes, j, holds[j], i)


def left_list(wishes, holds, person):
    return tuple(other for other in wishes.lists[person] if is_left(wishes, holds, person, other))


def is_steady(wishes, holds):
    firsts = [(left_list(wishes, holds, person) + (None,))[0] for person in persons(wishes)]
    for person in persons(wishes):
        if [other for other in persons(wishes) if firsts[other] == person] != (
            [] if holds[person] is None else [holds[person]]
        ):
            return False
    return True


def steady_tables(wishes):
    found = [holds for holds in all_holds(wishes) if is_steady(wishes, holds)]
    return sorted(found, key=lambda holds: [rank(wishes, person, held) for person, held in enumerate(holds)])


def can_ask(wishes, holds, person):
    return person not in holds and bool(left_list(wishes, holds, person))


def asked(wishes, holds, person):
    first = left_list(wishes, holds, person)[0]
    return tuple(person if other == first else held for other, held in enumerate(holds))


def follow(wishes, row):
    """The holds when persons have asked one after another, None if one cannot."""
    holds = (None,) * len(wishes.names)
    for person in row:
        if not is_number(person) or person >= len(holds) or not can_ask(wishes, holds, person):
            return None
        holds = asked(wishes, holds, person)
    return holds


def rings(parting):
    """All rings, each from its least person on."""
    found = []
    for person in range(len(parting)):
        ring = [person]
        while parting[ring[-1]] != person:
            ring.append(parting[ring[-1]])
        if person == min(ring):
            found.append(tuple(ring))
    return found


def odd_rings(parting):
    return tuple(ring for ring in rings(parting) if len(ring) > 1 and len(ring) % 2)


def singles(parting):
    return tuple(person for person, other in enumerate(parting) if person == other)


def nearby(parting):
    """The pairs of persons next to one another."""
    return tuple(sorted({(min(pair), max(pair)) for pair in enumerate(parting) if pair[0] != pair[1]}))


def lots(items):
    """All lots of some items."""
    found = [()]
    for item in sorted(items):
        found += [some + (item,) for some in found]
    return sorted(found)


def calm_blocks(wishes, pairing):
    return tuple(
        pair for pair in blocks(wishes, pairing) if all(mate(pairing, person) is not None for person in pair)
    )


def holder(holds, person):
    return holds.index(person) if person in holds else None


def mirror(holds):
    return tuple(holder(holds, person) for person in range(len(holds)))


def is_firm(wishes, holds):
    """Of point 39, for holds."""
    if any(holds.count(held) > 1 for held in holds if held is not None):
        return False
    for i in persons(wishes):
        for j in wishes.lists[i]:
            if rather(wishes, i, j, holder(holds, i)) and rather(wishes, j, i, holds[j]):
                return False
    return True


def firm_holds(wishes):
    found = [holds for holds in all_holds(wishes) if is_firm(wishes, holds)]
    return sorted(
        found,
        key=lambda holds: [-1 if held is None else rank(wishes, person, held) for person, held in enumerate(holds)],
    )


def second(wishes, holds, person):
    if person not in holds:
        return None
    some = wishes.lists[person]
    for other in some[some.index(holder(holds, person)) + 1:]:
        if rather(wishes, other, person, holds[other]):
            return other
    return None


def firm_rings(wishes, holds):
    """Of point 40: from each giver on, as far as it goes, and back to it."""
    found = []
    for first in persons(wishes):
        if first in holds:
            givers = [first]
            while True:
                taker = second(wishes, holds, givers[-1])
                giver = None if taker is None else holds[taker]
                if giver is None or giver in givers:
                    break
                givers.append(giver)
            if giver == first and first == min(givers):
                found.append(tuple((giver, holder(holds, giver)) for giver in givers))
    return tuple(sorted(found))


def over(holds, ring):
    """The holds behind a ring that is turned over."""
    after = list(holds)
    for (giver, _), (_, taker) in zip(ring, ring[1:] + ring[:1]):
        after[taker] = giver
    return tuple(after)


@kept
def greatest(wishes):
    """The holds when persons have asked one after another, always the first who can."""
    holds = (None,) * len(wishes.names)
    while True:
        able = next((person for person in persons(wishes) if can_ask(wishes, holds, person)), None)
        if able is None:
            return holds
        holds = asked(wishes, holds, able)


def whole_rows(wishes, most):
    """All whole rows, or the first of them, as many as told."""
    waiting, found = [(greatest(wishes), ())], []
    while waiting and len(found) < most:
        holds, row = waiting.pop()
        rings_now = firm_rings(wishes, holds)
        waiting.extend((over(holds, ring), row + (ring,)) for ring in rings_now)
        if not rings_now:
            assert holds == mirror(greatest(wishes))
            found.append(row)
    return found


def opposite(turn):
    """Of point 41."""
    told = [(taker, giver) for (giver, _), (_, taker) in zip(turn, turn[1:] + turn[:1])]
    at = told.index(min(told))
    return tuple(told[at:] + told[:at])


def leans(wishes, turn, other):
    """Of point 44."""
    brought = [(giver, taker) for (giver, _), (_, taker) in zip(other, other[1:] + other[:1])]
    before = {taker: giver for giver, taker in other}
    if any(pair in turn for pair in brought):
        return True
    for (x, t), (_, u) in zip(turn, turn[1:] + turn[:1]):
        for w in wishes.lists[x][rank(wishes, x, t) + 1: rank(wishes, x, u)]:
            for giver, taker in brought:
                if taker == w and rather(wishes, w, giver, x) and rather(wishes, w, x, before[w]):
                    return True
    return False


@kept
def whole_row(wishes):
    return whole_rows(wishes, 1)[0]


@kept
def all_turns(wishes):
    return tuple(sorted(whole_row(wishes)))


@kept
def chains(wishes):
    """Of point 54: for each person those who hold it, as the rings of a whole row are turned over."""
    holds = greatest(wishes)
    found = [[holder(holds, person)] for person in persons(wishes)]
    for ring in whole_row(wishes):
        holds = over(holds, ring)
        for person, chain in enumerate(found):
            if holder(holds, person) != chain[-1]:
                chain.append(holder(holds, person))
    return [() if chain == [None] else tuple(chain) for chain in found]


@kept
def closed_lots(wishes):
    """Of point 45: all lots of turns that have with each turn all that it leans on."""
    found = [()]
    # In a whole row each turn stands behind all that it leans on: so no closed lot is left out.
    for turn in whole_row(wishes):
        causes = {other for other in all_turns(wishes) if leans(wishes, turn, other)}
        found += [lot + (turn,) for lot in found if causes.issubset(lot)]
    return sorted(tuple(sorted(lot)) for lot in found)


def is_complete(turns, lot):
    """Of point 42: just one of each two unlike opposites, and no own opposite."""
    for turn in turns:
        if opposite(turn) == turn and turn in lot:
            return False
        if opposite(turn) != turn and (turn in lot) == (opposite(turn) in lot):
            return False
    return True


@kept
def complete_lots(wishes):
    return [lot for lot in closed_lots(wishes) if is_complete(all_turns(wishes), lot)]


def ends(wishes):
    """Of point 43: the rings of all ways to an end, as lots."""
    found, met, waiting = set(), {()}, [(greatest(wishes), ())]
    while waiting:
        holds, lot = waiting.pop()
        steps = [ring for ring in firm_rings(wishes, holds) if is_steady(wishes, over(holds, ring))]
        if not steps:
            found.add(lot)
        for ring in steps:
            more = tuple(sorted(lot + (ring,)))
            if more not in met:
                met.add(more)
                waiting.append((over(holds, ring), more))
    return sorted(found)


def holds_behind(wishes, lot):
    """The firm holds of a lot: its turns turned over in any sequence in which they can be."""
    holds, left = greatest(wishes), list(lot)
    while left:
        for ring in set(firm_rings(wishes, holds)) & set(left):
            left.remove(ring)
            holds = over(holds, ring)
    return holds


def parting_of_lot(wishes, lot):
    """Of point 46: the next one of each person is who holds it."""
    holds = holds_behind(wishes, lot)
    return tuple(person if holder(holds, person) is None else holder(holds, person) for person in persons(wishes))


def pairing_of_parting(parting):
    return tuple((person, other) for person, other in enumerate(parting) if person < other)
