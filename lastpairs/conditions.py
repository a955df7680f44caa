"""Conditions on pairings, and questions of several ones."""

from lastpairs.kinds import are_unlike_persons, is_below, is_number
from lastpairs.plain import partner_of
from lastpairs.wishes import rank_of

# How many items are behind the word of a condition.
LENGTHS = {"with": 2, "without": 2, "best": 2, "worst": 2, "either": 4}


def is_condition(wishes, value):
    """Whether a value is a condition."""
    if not isinstance(value, tuple) or not value or not isinstance(value[0], str):
        return False
    if len(value) != LENGTHS.get(value[0], -1) + 1:
        return False
    many = len(wishes.names)
    if value[0] in ("best", "worst"):
        return is_below(value[1], many) and is_number(value[2])
    return all([are_unlike_persons(value[at:at + 2], many) for at in range(1, len(value), 2)])


def is_question(wishes, value):
    """Whether a value is a question."""
    return isinstance(value, tuple) and all([is_condition(wishes, condition) for condition in value])


def meets(wishes, pairing, condition):
    """Whether a pairing is as a condition says."""
    word, person, other = condition[:3]
    mate = partner_of(pairing, person)
    if word == "with":
        return mate == other
    if word == "without":
        return mate != other
    if word == "best":
        return mate is not None and rank_of(wishes, person, mate) <= other
    if word == "worst":
        return mate is None or rank_of(wishes, person, mate) >= other
    return mate == other or partner_of(pairing, condition[3]) == condition[4]


def answers_all(wishes, pairing, question):
    """Whether a pairing meets all conditions of a question."""
    return all([meets(wishes, pairing, condition) for condition in question])
