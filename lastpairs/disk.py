"""Disks, and what a cut leaves of them."""

from lastpairs.errors import Refused
from lastpairs.kinds import is_below

OCTETS = 256
MOST_CELLS = 20000


class Disk:
    """Octets at places. What was put is sure to last when it has been flushed."""

    def __init__(self, cells):
        if not _are_cells(cells):
            raise Refused("cells")
        self.cells = cells
        self._now = list(cells)
        self._events = []

    def look(self, at):
        """The octet at a place."""
        return self._now[at]

    def put(self, at, octet):
        """Puts an octet at a place."""
        self._now[at] = octet
        self._events.append((at, octet))

    def flush(self):
        """Makes all that was put last."""
        self._events.append(None)

    def events(self):
        """All puts and flushes."""
        return tuple(self._events)


def _are_cells(value):
    if not isinstance(value, tuple) or not 1 <= len(value) <= MOST_CELLS:
        return False
    return all([is_below(octet, OCTETS) for octet in value])


def pending_places(events):
    """The places of all puts behind the last flush."""
    places = {}
    for event in events:
        if event is None:
            places = {}
        else:
            places[event[0]] = True
    return tuple(sorted(places))


def cut_cells(cells, events, octets):
    """What a cut leaves of a disk, with these octets at the pending places."""
    left = list(cells)
    for event in events:
        if event is not None:
            left[event[0]] = event[1]
    for place, octet in zip(pending_places(events), octets):
        left[place] = octet
    return tuple(left)
