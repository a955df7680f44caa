"""The desk: a lodging, and the deeds that have made it, kept in a journal on a disk."""

from lastpairs.deskrecords import deed_of_record, lodging_of_record, record_of_deed, record_of_lodging
from lastpairs.errors import Broken, Refused
from lastpairs.journal import Journal
from lastpairs.lodgings import Lodging, is_deed, lodging_after, lodging_after_all
from lastpairs.settlings import settling


class Desk:
    """The desk on a disk. The journal has a record of the lodging at the beginning, and one of each deed since."""

    def __init__(self, disk):
        self.disk = disk
        self._journal = Journal(disk)
        records = self._journal.records()
        self._first = lodging_of_record(records[0]) if records else None
        if self._first is None:
            raise Broken("desk")
        self._done = ()
        self.lodging = self._first
        for record in records[1:]:
            deed = deed_of_record(record)
            if not is_deed(self.lodging, deed) or record_of_deed(deed) != record:
                raise Broken("desk")
            self._go_on(deed)

    def _go_on(self, deed):
        self._done = self._done + (deed,)
        self.lodging = lodging_after(self.lodging, deed)

    def do(self, deed):
        """Does a deed."""
        if not is_deed(self.lodging, deed):
            raise Refused("deed")
        self._journal.write(record_of_deed(deed))
        self._go_on(deed)
        return deed

    def settle(self):
        """Settles the lodging, if there is a lasting pairing."""
        told = settling(self.lodging)
        return self.do(told) if is_deed(self.lodging, told) else told

    def undo(self):
        """Takes back the last deed that is kept."""
        if not self._done:
            raise Refused("deeds")
        self._journal.drop()
        self._done = self._done[:-1]
        self.lodging = lodging_after_all(self._first, self._done)

    def deeds(self):
        """All deeds that are kept since the desk began or was packed."""
        return self._done

    def begun(self):
        """The lodging of the moment when the desk began or was packed."""
        return self._first

    def pack(self):
        """Keeps the present lodging without deeds."""
        self._journal.renew((record_of_lodging(self.lodging),))
        self._first = self.lodging
        self._done = ()


def start_desk(disk, wishes):
    """Begins a desk without pairs in force on a disk."""
    Journal(disk).renew((record_of_lodging(Lodging(wishes, ())),))
    return Desk(disk)
