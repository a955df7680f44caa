"""Reads the texts of wishes, pairings and partings, and completes what only begins one."""

from lastpairs.errors import InvalidText
from lastpairs.lexer import marks_of
from lastpairs.ringstext import RingsText
from lastpairs.wishestext import WishesText


def read_wishes(text):
    """The wishes that a text tells."""
    return _read(WishesText(), text)


def read_pairing(wishes, text):
    """The pairing that a text tells."""
    rings = _read(RingsText(wishes, True), text)
    return tuple(sorted([(min(ring), max(ring)) for ring in rings]))


def read_parting(wishes, text):
    """The parting that a text tells."""
    parting = list(range(len(wishes.names)))
    for ring in _read(RingsText(wishes, False), text):
        for at, person in enumerate(ring):
            parting[ring[at - 1]] = person
    return tuple(parting)


def completed_wishes(text):
    """A text of wishes that begins with a text."""
    return _completed(WishesText(), text)


def completed_pairing(wishes, text):
    """A text of a pairing that begins with a text."""
    return _completed(RingsText(wishes, True), text)


def completed_parting(wishes, text):
    """A text of a parting that begins with a text."""
    return _completed(RingsText(wishes, False), text)


def _read(begun, text):
    _take_all(begun, text)
    if not begun.is_whole():
        raise InvalidText(text.count("\n"), len(text) - text.rfind("\n") - 1)
    return begun.told()


def _completed(begun, text):
    _take_all(begun, text)
    return text + begun.rest()


def _take_all(begun, text):
    if not isinstance(text, str):
        raise InvalidText(-1, -1)
    for line, at, mark in marks_of(text):
        if not begun.take(mark):
            raise InvalidText(line, at)
