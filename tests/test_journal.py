"""Point 76: journals, cut anywhere."""

import random
import unittest

from lastpairs.disk import Disk, cut_cells, pending_places
from lastpairs.errors import Broken
from lastpairs.journal import Journal
from tests.helpers import raised


def cells_of(disk):
    return tuple(disk.look(at) for at in range(len(disk.cells)))


def cuts(disk, already, chance):
    """Cells that cuts leave during a call, with old, new and any other octets at the pending places."""
    events = disk.events()
    for many in range(already, len(events) + 1):
        some = events[:many]
        places = pending_places(some)
        new = cut_cells(disk.cells, some, ())
        old = cut_cells(disk.cells, events[:already], ())
        fills = [tuple(new[at] for at in places), tuple(old[at] for at in places)]
        fills += [tuple(chance.randrange(256) for _ in places) for _ in range(4)]
        fills += [(octet,) * len(places) for octet in (0, 1, 2, 77, 254, 255)]
        for octets in fills:
            yield cut_cells(disk.cells, some, octets)


def weight(records):
    return sum(len(record) + 8 for record in records)


class JournalTest(unittest.TestCase):
    def test_ordinary(self):
        disk = Disk((0,) * 100)
        journal = Journal(disk)
        self.assertIs(journal.disk, disk)
        self.assertEqual(journal.records(), ())
        self.assertIsNone(journal.write((1, 2, 3)))
        self.assertIsNone(journal.write(record=()))
        self.assertEqual(journal.records(), ((1, 2, 3), ()))
        self.assertEqual(Journal(disk=disk).records(), ((1, 2, 3), ()))
        self.assertIsNone(journal.drop())
        self.assertEqual(journal.records(), ((1, 2, 3),))
        self.assertIsNone(journal.renew(records=((0,), (255, 255))))
        self.assertEqual(journal.records(), ((0,), (255, 255)))
        self.assertEqual(Journal(Disk(cells_of(disk))).records(), ((0,), (255, 255)))
        journal.renew(())
        self.assertEqual(Journal(Disk(cells_of(disk))).records(), ())

    def test_no_records(self):
        for many in list(range(1, 40)) + [20000]:
            journal = Journal(Disk((0,) * many))
            self.assertEqual(journal.records(), ())
            self.assertEqual(raised(journal.drop), ("Refused", "records"))

    def test_asking_makes_no_events(self):
        disk = Disk((0,) * 60)
        journal = Journal(disk)
        journal.records()
        raised(journal.drop)
        raised(journal.write, (1,) * 60)
        raised(journal.renew, ((1,),) * 60)
        self.assertEqual(disk.events(), ())
        journal.write((4,))
        many = len(disk.events())
        Journal(disk)
        journal.records()
        raised(journal.write, (1,) * 60)
        self.assertEqual(len(disk.events()), many)
        self.assertEqual(journal.records(), ((4,),))

    def test_nothing_is_pending_behind_a_call(self):
        disk = Disk((0,) * 60)
        journal = Journal(disk)
        for call in (lambda: journal.write((1, 2)), lambda: journal.write(()), journal.drop, lambda: journal.renew(((9,),))):
            call()
            self.assertEqual(pending_places(disk.events()), ())

    def test_room(self):
        for many in list(range(16, 80)) + [200, 201, 999, 20000]:
            room = many // 2 - 8
            journal = Journal(Disk((0,) * many))
            self.assertIsNone(journal.renew(()))
            if room >= 8:
                one = tuple(at % 256 for at in range(room - 8))
                self.assertIsNone(journal.write(one))
                self.assertEqual(Journal(Disk(cells_of(journal.disk))).records(), (one,))
                self.assertIsNone(journal.renew((one,)))
                small = ((),) * (room // 8)
                self.assertIsNone(journal.renew(small))
                self.assertEqual(Journal(Disk(cells_of(journal.disk))).records(), small)
                journal.drop()
                self.assertIsNone(journal.write((7,) * (room % 8)))

    def test_one_record_more(self):
        for many in (1, 2, 5, 9, 16, 33, 100, 20000):
            journal = Journal(Disk((3,) + (0,) * (many - 1)))
            kept = ()
            while raised(journal.write, (5,) * (many // 10)) is None:
                kept += ((5,) * (many // 10),)
                self.assertEqual(journal.records(), kept)
                self.assertLess(weight(kept), 8 * many)
            self.assertEqual(raised(journal.write, (5,) * (many // 10)), ("Refused", "room"))
            self.assertEqual(raised(journal.renew, kept + ((5,) * (many // 10),)), ("Refused", "room"))
            self.assertEqual(raised(journal.write, (5,) * many), ("Refused", "room"))
            self.assertEqual(journal.records(), kept)
            self.assertEqual(Journal(Disk(cells_of(journal.disk))).records(), kept)
            self.assertGreater(weight(kept) + 8 + many // 10, many // 2 - 8)

    def test_long_records(self):
        journal = Journal(Disk((0,) * 20000))
        for length in (255, 256, 257, 5000, 9984):
            record = tuple(at % 251 for at in range(length))
            journal.renew((record,))
            self.assertEqual(Journal(Disk(cells_of(journal.disk))).records(), (record,))

    def test_any_cells(self):
        chance = random.Random(76)
        for _ in range(2000):
            cells = tuple(chance.choice((0, 0, 1, 2, 255, chance.randrange(256))) for _ in range(chance.randint(1, 30)))
            try:
                records = Journal(Disk(cells)).records()
            except Broken as error:
                self.assertEqual(error.word, "journal")
            else:
                self.assertTrue(all(type(record) is tuple for record in records))

    def test_cut_anywhere(self):
        chance = random.Random(761)
        for size in (16, 31, 60, 61, 90):
            disk = Disk((0,) * size)
            for _ in range(25):
                journal = Journal(disk)
                before, already = journal.records(), len(disk.events())
                self.change(journal, chance)
                behind = journal.records()
                for cells in cuts(disk, already, chance):
                    self.assertIn(Journal(Disk(cells)).records(), (before, behind))
                self.assertEqual(Journal(Disk(cells_of(disk))).records(), behind)
                if chance.random() < 0.3:
                    disk = Disk(cells_of(disk))

    def change(self, journal, chance):
        """Does something, of which the records behind it are told by this test alone."""
        records = journal.records()
        room = len(journal.disk.cells) // 2 - 8 - weight(records)
        word = chance.choice(("write", "write", "drop", "renew"))
        if word == "write" and room >= 8:
            record = tuple(chance.randrange(256) for _ in range(chance.randint(0, min(room - 8, 9))))
            journal.write(record)
            self.assertEqual(journal.records(), records + (record,))
        elif word == "drop" and records:
            journal.drop()
            self.assertEqual(journal.records(), records[:-1])
        else:
            some = tuple(record for record in records if chance.random() < 0.6)
            journal.renew(some)
            self.assertEqual(journal.records(), some)

    def test_a_journal_goes_on_from_what_a_cut_left(self):
        chance = random.Random(762)
        for _ in range(150):
            disk = Disk((0,) * chance.randint(30, 70))
            for _ in range(6):
                journal = Journal(disk)
                before, already = journal.records(), len(disk.events())
                self.change(journal, chance)
                behind = journal.records()
                cells = chance.choice(list(cuts(disk, already, chance)))
                disk = Disk(cells)
                self.assertIn(Journal(disk).records(), (before, behind))

    def test_every_octet_of_a_pending_place(self):
        disk = Disk((0,) * 40)
        journal = Journal(disk)
        journal.write((1, 2))
        already = len(disk.events())
        journal.write((3,))
        events = disk.events()
        for many in range(already, len(events) + 1):
            places = pending_places(events[:many])
            for octet in range(256):
                cells = cut_cells(disk.cells, events[:many], (octet,) * len(places))
                self.assertIn(Journal(Disk(cells)).records(), (((1, 2),), ((1, 2), (3,))))


if __name__ == "__main__":
    unittest.main()
