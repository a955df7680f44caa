"""Journals: records on a disk that may be cut anywhere.

The first cell of the disk says which of two areas counts, by being even or odd. Records are laid
into the other area, and flushed, before this cell is changed. A cut can leave any octet there:
but each octet names one of two areas that are both whole.
"""

from lastpairs.errors import Broken, Refused

# How many cells tell the length of an area's records, and of one record.
LENGTH = 2


class Journal:
    """The records that lie on a disk."""

    def __init__(self, disk):
        self.disk = disk
        self._size = (len(disk.cells) - 1) // 2
        self._counting = disk.look(0) & 1
        self._kept = self._read()

    def records(self):
        """All records."""
        return self._kept

    def write(self, record):
        """Adds a record behind all others."""
        self._lay(self._kept + (record,))

    def drop(self):
        """Takes the last record away."""
        if not self._kept:
            raise Refused("records")
        self._lay(self._kept[:-1])

    def renew(self, records):
        """Puts these records in the place of all."""
        self._lay(records)

    def _read(self):
        # Too small a disk has no room for the length of an area.
        if self._size < LENGTH:
            return ()
        begin = self._begin(self._counting)
        many = self._read_length(begin)
        if many > self._size - LENGTH:
            raise Broken("journal")
        return self._read_records(begin + LENGTH, begin + LENGTH + many)

    def _read_records(self, at, end):
        records = []
        while at < end:
            if end - at < LENGTH or end - at - LENGTH < self._read_length(at):
                raise Broken("journal")
            begin = at + LENGTH
            at = begin + self._read_length(at)
            records.append(tuple([self.disk.look(place) for place in range(begin, at)]))
        return tuple(records)

    def _begin(self, area):
        return 1 + area * self._size

    def _read_length(self, at):
        return 256 * self.disk.look(at) + self.disk.look(at + 1)

    def _lay(self, records):
        octets = _octets_of(records)
        if len(octets) > self._size:
            raise Refused("room")
        other = 1 - self._counting
        for at, octet in enumerate(octets):
            # Mostly the area has the same octets from the call before the last one.
            if self.disk.look(self._begin(other) + at) != octet:
                self.disk.put(self._begin(other) + at, octet)
        self.disk.flush()
        self.disk.put(0, other)
        self.disk.flush()
        self._counting = other
        self._kept = records


def _octets_of(records):
    octets = []
    for record in records:
        octets.extend(_length_octets(len(record)))
        octets.extend(record)
    return _length_octets(len(octets)) + octets


def _length_octets(length):
    return [length // 256, length & 255]
