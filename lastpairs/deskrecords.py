"""Lodgings and deeds as records of octets."""

from lastpairs.errors import InvalidWishes
from lastpairs.lodgings import Lodging, is_lodging
from lastpairs.wishes import Wishes

# What a record of a lodging begins with, as other journals hardly do.
MARK = (108, 111, 100, 103)

LETTERS = "abcdefghijklmnopqrstuvwxyz"

# The words of deeds: a record of a deed begins with the place of its word.
WORDS = ("come", "go", "list", "part", "meet", "join", "settle")


def record_of_lodging(lodging):
    """The record that tells a lodging."""
    rows = []
    for name, some in zip(lodging.wishes.names, lodging.wishes.lists):
        rows.extend([_octets_of_name(name), some])
    rows.append(_flat(lodging.pairing))
    octets = list(MARK)
    for row in rows:
        octets.append(len(row))
        octets.extend(row)
    return tuple(octets)


def _octets_of_name(name):
    return [LETTERS.index(sign) for sign in name]


def _flat(pairs):
    return [number for pair in pairs for number in pair]


def lodging_of_record(record):
    """The lodging that a record tells, or None."""
    rows = _rows_of(record[len(MARK):])
    if record[:len(MARK)] != MARK or rows is None or len(rows) & 1 == 0:
        return None
    names = tuple([_name_of(row) for row in rows[:-1:2]])
    try:
        wishes = Wishes(names, tuple(rows[1::2]))
    except InvalidWishes:
        return None
    lodging = Lodging(wishes, _pairs_of(rows[-1]))
    return lodging if is_lodging(lodging) else None


def _rows_of(octets):
    """The rows that octets tell, each behind its length, or None if they are no such rows."""
    rows = []
    at = 0
    while at < len(octets):
        end = at + 1 + octets[at]
        if end > len(octets):
            return None
        rows.append(octets[at + 1:end])
        at = end
    return rows


def _name_of(octets):
    """The name that octets tell; it is no name if they are none."""
    return "".join([LETTERS[octet:octet + 1] or "-" for octet in octets])


def _pairs_of(octets):
    """The pairs that octets tell; the last one is none if they are an odd number."""
    return tuple([octets[at:at + 2] for at in range(0, len(octets), 2)])


def record_of_deed(deed):
    """The record that tells a deed."""
    octets = [WORDS.index(deed[0])]
    if deed[0] == "come":
        octets.append(len(deed[1]))
        octets.extend(_octets_of_name(deed[1]) + _flat(deed[2]))
    elif deed[0] == "list":
        octets.extend((deed[1],) + deed[2])
    elif deed[0] == "settle":
        octets.extend(_flat(deed[1]))
    else:
        octets.extend(deed[1:])
    return tuple(octets)


def deed_of_record(record):
    """What a record tells, be it a deed or not."""
    word = WORDS[record[0]] if record and record[0] < len(WORDS) else None
    rest = record[1:]
    if word == "come" and rest:
        end = 1 + rest[0]
        return word, _name_of(rest[1:end]), _pairs_of(rest[end:])
    if word == "list" and rest:
        return word, rest[0], rest[1:]
    if word == "settle":
        return word, _pairs_of(rest)
    return (word,) + rest
