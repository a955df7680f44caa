"""Point 75: disks."""

import random
import unittest

from lastpairs.disk import Disk, cut_cells, pending_places
from tests import naive
from tests.helpers import raised, wrong_forms, zoo


class DiskTest(unittest.TestCase):
    def test_ordinary(self):
        disk = Disk((5, 6, 7, 8))
        self.assertEqual([disk.look(at) for at in range(4)], [5, 6, 7, 8])
        self.assertEqual(disk.events(), ())
        self.assertIsNone(disk.put(1, 9))
        self.assertIsNone(disk.flush())
        disk.put(at=1, octet=9)
        disk.put(0, 255)
        self.assertEqual(disk.events(), ((1, 9), None, (1, 9), (0, 255)))
        self.assertEqual([disk.look(at=at) for at in range(4)], [255, 9, 7, 8])
        self.assertEqual(disk.cells, (5, 6, 7, 8))

    def test_cells(self):
        for cells in ((0,), (255,) * 20000, (0, 255)):
            self.assertEqual(Disk(cells).cells, cells)
        for cells in ((), (0,) * 20001, (256,), (-1,), (True,), (0, False), (0.0,), ("0",), (None,), [0], b"a", None, 3):
            self.assertEqual(raised(Disk, cells), ("Refused", "cells"))
        for value in zoo():
            self.assertEqual(raised(Disk, value), ("Refused", "cells"))
        for value in wrong_forms((0, 1, 255)):
            fine = type(value) is tuple and value != () and all(naive.is_number(octet) and octet < 256 for octet in value)
            self.assertEqual(raised(Disk, value), None if fine else ("Refused", "cells"))

    def test_events_are_as_of_the_call(self):
        disk = Disk((0,))
        before = disk.events()
        disk.flush()
        self.assertEqual(before, ())
        self.assertEqual(disk.events(), (None,))

    def test_pending(self):
        self.assertEqual(pending_places(()), ())
        self.assertEqual(pending_places((None,)), ())
        self.assertEqual(pending_places(((5, 1), None)), ())
        self.assertEqual(pending_places(((5, 1), None, (4, 2), (2, 2), (4, 3))), (2, 4))
        self.assertEqual(pending_places(events=((1, 0),)), (1,))
        self.assertEqual(pending_places((None, (3, 3), None, None)), ())

    def test_cuts(self):
        self.assertEqual(cut_cells((5, 6, 7, 8), ((1, 9), None, (2, 3), (0, 4)), (77, 0)), (77, 9, 0, 8))
        self.assertEqual(cut_cells((5, 6), (), ()), (5, 6))
        self.assertEqual(cut_cells((5, 6), ((0, 1), (0, 2), None), ()), (2, 6))
        self.assertEqual(cut_cells(cells=(5, 6), events=((0, 1), None, (0, 2)), octets=(3,)), (3, 6))

    def test_against_the_words(self):
        chance = random.Random(75)
        for _ in range(100):
            cells = tuple(chance.randrange(256) for _ in range(6))
            disk = Disk(cells)
            now, pending = list(cells), {}
            for _ in range(chance.randrange(12)):
                if chance.random() < 0.2:
                    disk.flush()
                    pending = {}
                else:
                    at, octet = chance.randrange(6), chance.randrange(256)
                    disk.put(at, octet)
                    now[at] = octet
                    pending[at] = True
            self.assertEqual(pending_places(disk.events()), tuple(sorted(pending)))
            octets = tuple(chance.randrange(256) for _ in pending)
            for at, octet in zip(sorted(pending), octets):
                now[at] = octet
            self.assertEqual(cut_cells(cells, disk.events(), octets), tuple(now))


if __name__ == "__main__":
    unittest.main()
