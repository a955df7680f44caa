"""Point 79: the desk."""

import random
import unittest

from lastpairs.desk import Desk, start_desk
from lastpairs.disk import Disk, cut_cells, pending_places
from lastpairs.errors import Broken
from lastpairs.journal import Journal
from lastpairs.lodgings import Lodging, is_deed, lodging_after, lodging_after_all
from lastpairs.partings import odd_rings, single_persons
from lastpairs.reader import read_wishes
from lastpairs.wishes import Wishes
from tests import naive
from tests.helpers import is_plain, many_wishes, raised, random_wishes, ring_wishes, sixties, squares, wishes_of, wrong_forms, zoo
from tests.test_journal import cells_of, cuts
from tests.test_lodgings import DEEDS, KITE, is_deed_by_words

TWO = read_wishes("ann: bob\nbob: ann cid\ncid: bob")
ODD = wishes_of((1, 2, 3), (2, 0, 3), (0, 1, 3), (0, 1, 2))
COME = ("come", "bea", ((0, 0), (2, 1)))


def weight_of(lodging):
    entries = sum(map(len, lodging.wishes.lists))
    return 16 + 16 * len(lodging.wishes.names) + 4 * entries + 8 * len(lodging.pairing)


def weight_of_deed(deed):
    return 32 + (8 * len(deed[-1]) if type(deed[-1]) is tuple else 0)


def room(many):
    return many / 2 - 8


def state(desk):
    return desk.lodging, desk.deeds(), desk.begun()


def again(desk):
    """The desk on a disk with the same cells, made anew."""
    return Desk(Disk(cells_of(desk.disk)))


def some_deed(lodging, chance):
    """Some deed that can be done."""
    wishes, many = lodging.wishes, len(lodging.wishes.names)
    person, other = chance.randrange(many), chance.randrange(many)
    some = list(wishes.lists[person])
    chance.shuffle(some)
    places = [(one, chance.randint(0, len(wishes.lists[one]))) for one in range(many) if chance.random() < 0.5]
    chance.shuffle(places)
    free = [name for name in ("a", "k", "zz", "mmmmmm", "pq") if name not in wishes.names]
    deeds = [
        ("come", chance.choice(free or ["b"]), tuple(places)), ("go", person), ("list", person, tuple(some)), ("part", person, other),
        ("meet", min(person, other), max(person, other), chance.randint(0, 2), chance.randint(0, 2)), ("join", person, other),
    ]
    deeds += [("join",) + pair for pair in naive.blocks(wishes, lodging.pairing)[:2]]
    if many < 7:
        deeds += [("settle", pairing) for pairing in naive.lasting(wishes)]
    return chance.choice([deed for deed in deeds if is_deed(lodging, deed)])


class DeskTest(unittest.TestCase):
    def test_ordinary(self):
        disk = Disk((0,) * 600)
        desk = start_desk(disk, TWO)
        self.assertIs(desk.disk, disk)
        self.assertEqual(state(desk), (Lodging(TWO, ()), (), Lodging(TWO, ())))
        self.assertEqual(desk.settle(), ("settle", ((0, 1),)))
        self.assertEqual(desk.do(COME), COME)
        self.assertEqual(desk.lodging, lodging_after_all(Lodging(TWO, ()), (("settle", ((0, 1),)), COME)))
        self.assertEqual(desk.deeds(), (("settle", ((0, 1),)), COME))
        self.assertEqual(desk.begun(), Lodging(TWO, ()))
        self.assertEqual(state(again(desk)), state(desk))
        self.assertIsNone(desk.undo())
        self.assertEqual(desk.lodging, Lodging(TWO, ((0, 1),)))
        self.assertEqual(desk.deeds(), (("settle", ((0, 1),)),))
        self.assertIsNone(desk.pack())
        self.assertEqual(state(desk), (Lodging(TWO, ((0, 1),)), (), Lodging(TWO, ((0, 1),))))
        self.assertEqual(state(again(desk)), state(desk))
        self.assertEqual(raised(desk.undo), ("Refused", "deeds"))
        self.assertEqual(desk.do(deed=("go", 2)), ("go", 2))
        self.assertEqual(state(Desk(disk=disk)), state(desk))

    def test_each_deed(self):
        for deed in DEEDS:
            desk = start_desk(disk=Disk((0,) * 900), wishes=KITE)
            self.assertIs(desk.do(deed), deed)
            self.assertEqual(state(desk), (lodging_after(Lodging(KITE, ()), deed), (deed,), Lodging(KITE, ())))
            self.assertEqual(state(again(desk)), state(desk))
            self.assertEqual(again(desk).deeds(), (deed,))
            desk.undo()
            self.assertEqual(state(again(desk)), (Lodging(KITE, ()), (), Lodging(KITE, ())))

    def test_wrong_deeds(self):
        desk = start_desk(Disk((0,) * 600), TWO)
        events, before = desk.disk.events(), state(desk)
        for value in zoo() + [("go", 3), ("go", True), ("come", "ann", ()), ("settle", ()), ("join", 0, 2), ["go", 0], ("part", 1, 0), ("undo",),
                              ("ring", (0, 1, 2)), (), ("come", "bea", [(0, 0)])]:
            self.assertEqual(raised(desk.do, value), ("Refused", "deed"))
        for value in wrong_forms(COME):
            if not is_deed_by_words(desk.lodging, value):
                self.assertEqual(raised(desk.do, value), ("Refused", "deed"))
        self.assertEqual(desk.disk.events(), events)
        self.assertEqual(state(desk), before)
        self.assertEqual(state(again(desk)), before)

    def test_settle(self):
        # What lasts already is a deed, too.
        desk = start_desk(Disk((0,) * 600), TWO)
        for many in (1, 2, 3):
            self.assertEqual(desk.settle(), ("settle", ((0, 1),)))
            self.assertEqual(desk.deeds(), (("settle", ((0, 1),)),) * many)
        # Nothing lasts, so nothing is done.
        desk = start_desk(Disk((0,) * 600), ODD)
        events = desk.disk.events()
        self.assertEqual(desk.settle(), ("ring", (1, 2, 0, 3)))
        self.assertEqual((desk.deeds(), desk.disk.events()), ((), events))
        desk.do(("go", 0))
        self.assertEqual(desk.settle(), ("settle", ((0, 1),)))
        self.assertEqual(again(desk).lodging.pairing, ((0, 1),))

    def test_deeds_taken_back_to_the_first(self):
        chance = random.Random(79)
        for wishes in many_wishes(79, 30, 6):
            desk = start_desk(Disk((0,) * 4000), wishes)
            seen = [desk.lodging]
            for _ in range(12):
                desk.do(some_deed(desk.lodging, chance))
                seen.append(desk.lodging)
            deeds = desk.deeds()
            self.assertEqual(len(deeds), 12)
            for at in range(12, 0, -1):
                self.assertEqual(desk.lodging, seen[at])
                self.assertEqual(desk.deeds(), deeds[:at])
                desk.undo()
            self.assertEqual(state(desk), (seen[0], (), seen[0]))
            self.assertEqual(raised(desk.undo), ("Refused", "deeds"))
            self.assertEqual(state(again(desk)), state(desk))

    def test_packed_and_begun_anew(self):
        chance = random.Random(790)
        desk = start_desk(Disk((0,) * 3000), TWO)
        for at in range(40):
            desk.do(some_deed(desk.lodging, chance))
            if at % 7 == 3:
                lodging = desk.lodging
                desk.pack()
                self.assertEqual(state(desk), (lodging, (), lodging))
            self.assertEqual(desk.lodging, lodging_after_all(desk.begun(), desk.deeds()))
            self.assertEqual(state(again(desk)), state(desk))
        other = start_desk(desk.disk, KITE)
        self.assertEqual(state(other), (Lodging(KITE, ()), (), Lodging(KITE, ())))
        self.assertEqual(state(Desk(desk.disk)), state(other))

    def test_all_is_kept(self):
        """Names of all lengths, and wishes of all kinds."""
        names = ("a", "ab", "abc", "abcdef", "az", "z", "zzzzzz")
        ring = Wishes(names, ring_wishes(7).lists)
        for wishes in [ring, Wishes(names, ((),) * 7), wishes_of(()), *many_wishes(791, 30, 9), *sixties()]:
            desk = start_desk(Disk((0,) * 20000), wishes)
            told = desk.settle()
            self.assertEqual(state(again(desk)), state(desk))
            self.assertEqual(again(desk).lodging, Lodging(wishes, told[1] if told[0] == "settle" else ()))
            desk.pack()
            self.assertEqual(state(again(desk)), state(desk))
            self.assertEqual(odd_rings(again(desk).lodging.wishes), odd_rings(wishes))
            self.assertEqual(single_persons(again(desk).lodging.wishes), single_persons(wishes))

    def test_sixty_persons_and_one_more(self):
        full = ring_wishes(60)
        desk = start_desk(Disk((0,) * 20000), full)
        self.assertEqual(raised(desk.do, ("come", "zzz", ())), ("Refused", "deed"))
        desk.do(("go", 59))
        deed = ("come", "zzz", tuple((person, 58) for person in range(59)))
        self.assertEqual(desk.do(deed), deed)
        self.assertEqual(raised(desk.do, ("come", "zzzz", ())), ("Refused", "deed"))
        self.assertEqual(len(desk.lodging.wishes.names), 60)
        self.assertEqual(state(again(desk)), state(desk))
        desk.settle()
        self.assertEqual(state(again(desk)), state(desk))


class BrokenTest(unittest.TestCase):
    def test_no_records(self):
        for many in list(range(1, 60)) + [600, 20000]:
            self.assertEqual(raised(Desk, Disk((0,) * many)), ("Broken", "desk"))
        disk = Disk((0,) * 100)
        Journal(disk).renew(((1, 2), ()))
        Journal(disk).renew(())
        self.assertEqual(raised(Desk, disk), ("Broken", "desk"))

    def test_journals_of_no_desk(self):
        chance = random.Random(792)
        right = self.records_of(start_desk(Disk((0,) * 600), TWO))
        for records in (
            ((),), ((0,),), ((255,) * 9,), ((1, 2, 3), (4,)), ((1, 0, 0, 0),), right * 2, ((),) + right, right + ((),), right + ((0,),), right + ((255, 0),),
            right + ((1, 3),), right + ((1,),), right + ((1, 0, 0),), (right[0] + (0,),), (right[0][:-1],), (right[0][1:],), right + (right[0][:5],),
        ):
            self.assertEqual(self.error_of(records), ("Broken", "desk"), records)
        for _ in range(2000):
            records = tuple(
                tuple(chance.choice((0, 1, 2, 3, chance.randrange(256))) for _ in range(chance.randint(0, 12))) for _ in range(chance.randint(1, 3))
            )
            self.assertEqual(self.error_of(records), ("Broken", "desk"), records)

    def test_records_that_are_nearly_right(self):
        one = self.records_of(start_desk(Disk((0,) * 600), wishes_of(())))[0]
        self.assertIsNone(self.error_of((one,)))
        # Cut short, with rows that are longer than they can be, with letters that are none, with a mark that is another one.
        for record in (one[:-1], one[:-2], one[:-1] + (1,), one[:-1] + (2,), one + (0,), one + (0, 0), one[:-4] + (2, 0, 200, 0, 0), one[:-3] + (26, 0, 0),
                       one[:-4] + (0, 0, 0), one[:-4] + (7, *one[-3:-2] * 7, 0, 0)):
            self.assertEqual(self.error_of((record,)), ("Broken", "desk"), record)
        for at in range(len(one) - 4):
            self.assertEqual(self.error_of((one[:at] + (one[at] ^ 1,) + one[at + 1:],)), ("Broken", "desk"))
        right = self.records_of(start_desk(Disk((0,) * 600), TWO))
        # What is in force must be a pairing.
        self.assertEqual(right[0][-1], 0)
        self.assertIsNone(self.error_of((right[0][:-1] + (2, 1, 2),)))
        for pairs in ((1, 0), (2, 0, 2), (2, 1, 0), (2, 0, 0), (3, 0, 1, 2), (4, 0, 1, 1, 2), (4, 0, 1, 0, 1), (2, 2, 3), (2, 0, 255), (2, 0, 1, 0)):
            self.assertEqual(self.error_of((right[0][:-1] + pairs,)), ("Broken", "desk"), pairs)
        for octets in [(word,) for word in range(256)] + [(word, 0) for word in range(256) if word != 1]:
            self.assertEqual(self.error_of(right + (octets,)), ("Broken", "desk"), octets)
        # A name that is said to be longer than it is.
        self.assertIsNone(self.error_of(right + ((0, 1, 1),)))
        for octets in ((0, 6, 1), (0, 2, 1), (0, 0, 1), (0, 1, 1, 0), (0, 1, 26), (1, 0, 0), (6, 0), (6, 0, 1, 0)):
            self.assertEqual(self.error_of(right + (octets,)), ("Broken", "desk"), octets)

    def test_records_that_are_changed(self):
        """With one octet changed, too, there is a desk whose deeds can be done, or none."""
        chance = random.Random(793)
        desk = start_desk(Disk((0,) * 900), KITE)
        for deed in (("come", "c", ((3, 0), (0, 2))), ("list", 5, (4,)), ("join", 0, 1), ("meet", 2, 5, 0, 0), ("go", 3), ("part", 0, 1)):
            desk.do(deed)
        desk.settle()
        records = self.records_of(desk)
        words = []
        for _ in range(1500):
            at = chance.randrange(len(records))
            place = chance.randrange(len(records[at]))
            changed = records[at][:place] + (chance.choice((0, 1, 2, 3, 4, 5, 6, 7, 25, 26, 255)),) + records[at][place + 1:]
            disk = Disk((0,) * 900)
            Journal(disk).renew(records[:at] + (changed,) + records[at + 1:])
            error = raised(Desk, disk)
            words.append(error)
            if error is None:
                other, lodging = Desk(disk), Desk(disk).begun()
                for deed in other.deeds():
                    self.assertTrue(is_deed(lodging, deed) and is_plain(deed))
                    lodging = lodging_after(lodging, deed)
                self.assertEqual(lodging, other.lodging)
            else:
                self.assertEqual(error, ("Broken", "desk"))
        self.assertGreater(min(words.count(None), words.count(("Broken", "desk"))), 50)

    def test_what_a_journal_raises(self):
        cells = (0,) + (255,) * 59
        with self.assertRaises(Broken) as caught:
            Desk(Disk(cells))
        self.assertEqual(caught.exception.word, "journal")
        disk = Disk(cells)
        with self.assertRaises(Broken) as caught:
            start_desk(disk, wishes_of(()))
        self.assertEqual((caught.exception.word, disk.events()), ("journal", ()))

    def records_of(self, desk):
        return Journal(Disk(cells_of(desk.disk))).records()

    def error_of(self, records):
        disk = Disk((0,) * 2000)
        Journal(disk).renew(records)
        events = disk.events()
        error = raised(Desk, disk)
        self.assertEqual(disk.events(), events)
        return error


class RoomTest(unittest.TestCase):
    def test_just_large_enough(self):
        """A disk of the least size for which nothing may be refused, and what is kept on it."""
        chance = random.Random(794)
        for wishes in [wishes_of(()), TWO, KITE, *many_wishes(794, 25, 7), ring_wishes(12)]:
            lodging = Lodging(wishes, ())
            deeds = []
            for _ in range(chance.randint(0, 12)):
                deeds.append(some_deed(lodging, chance))
                lodging = lodging_after(lodging, deeds[-1])
            weight = weight_of(Lodging(wishes, ())) + sum(map(weight_of_deed, deeds))
            desk = start_desk(Disk((0,) * (2 * weight + 16)), wishes)
            self.assertEqual(room(2 * weight + 16), weight)
            for deed in deeds:
                self.assertEqual(desk.do(deed), deed)
            self.assertEqual(state(again(desk)), (lodging, tuple(deeds), Lodging(wishes, ())))
            if weight_of(lodging) <= weight:
                desk.pack()
                self.assertEqual(state(again(desk)), (lodging, (), lodging))

    def test_full_wishes_and_long_lists(self):
        everybody = wishes_of(*[[other for other in range(60) if other != person] for person in range(60)])
        weight = weight_of(Lodging(everybody, ()))
        self.assertGreater(2 * weight + 16, 20000)
        half = wishes_of(*[[other for other in range(30) if other != person] for person in range(30)])
        weight = weight_of(Lodging(half, ()))
        desk = start_desk(Disk((0,) * (2 * weight + 2 * (32 + 8 * 30) + 16)), half)
        deed = ("come", "zzz", tuple((person, 29) for person in range(30)))
        self.assertEqual(desk.do(deed), deed)
        self.assertEqual(state(again(desk)), state(desk))

    def test_too_small(self):
        for many in (1, 2, 3, 9, 20):
            disk = Disk((0,) * many)
            self.assertEqual(raised(start_desk, disk, TWO), ("Refused", "room"))
            self.assertEqual(disk.events(), ())
        self.assertEqual(raised(start_desk, Disk((0,) * 300), ring_wishes(60)), ("Refused", "room"))
        self.assertEqual(raised(start_desk, Disk((0,) * 100), ring_wishes(12)), ("Refused", "room"))

    def test_more_deeds_than_fit(self):
        for many in (100, 200, 333, 900):
            desk = start_desk(Disk((0,) * many), TWO)
            weight, done = weight_of(Lodging(TWO, ())), 0
            while raised(desk.do, ("list", done % 3, TWO.lists[done % 3])) is None:
                done += 1
                self.assertLess(done, many)
            # It was not refused too early, and nothing has changed when it was.
            self.assertGreater(weight + sum(map(weight_of_deed, desk.deeds())) + weight_of_deed(("list", done % 3, TWO.lists[done % 3])), room(many))
            before, events = state(desk), desk.disk.events()
            self.assertEqual(len(before[1]), done)
            self.assertEqual(raised(desk.do, ("list", done % 3, TWO.lists[done % 3])), ("Refused", "room"))
            # Which error comes first: what cannot be done has no need of room.
            self.assertEqual(raised(desk.do, ("go", 3)), ("Refused", "deed"))
            self.assertEqual((state(desk), desk.disk.events()), (before, events))
            self.assertEqual(state(again(desk)), before)
            desk.undo()
            self.assertIsNone(raised(desk.do, before[1][-1]))
            desk.pack()
            self.assertEqual(state(again(desk)), (before[0], (), before[0]))
            self.assertIsNone(raised(desk.do, ("list", 1, (2, 0))))

    def test_packing_and_settling_without_room(self):
        desk = start_desk(Disk((0,) * 70), wishes_of(()))
        at = 0
        while raised(desk.do, ("come", "k" + "abcdefghijklmnop"[at], tuple((person, 0) for person in range(len(desk.lodging.wishes.names))))) is None:
            at += 1
        before, events = state(desk), desk.disk.events()
        # What is settled needs room, too; and the lodging alone may need more than the first one with all deeds.
        while raised(desk.settle) is None:
            self.assertLess(len(desk.deeds()), 60)
        self.assertEqual(raised(desk.settle), ("Refused", "room"))
        self.assertEqual(state(again(desk)), state(desk))
        self.assertEqual(state(desk)[2], before[2])
        self.assertGreaterEqual(len(desk.disk.events()), len(events))
        desk = start_desk(Disk((0,) * 80), wishes_of(()))
        for name in ("bbbbbb", "cccccc"):
            self.assertIsNone(raised(desk.do, ("come", name, ((0, 0),))))
        while raised(desk.do, ("go", 0)) is None:
            pass
        before, events = state(desk), desk.disk.events()
        error = raised(desk.pack)
        self.assertIn(error, (None, ("Refused", "room")))
        if error is not None:
            self.assertEqual((state(desk), desk.disk.events()), (before, events))

    def test_a_lodging_that_outgrows_its_disk(self):
        """A person who comes weighs more later, in a lodging, than as a deed: then packing is refused."""
        refused = 0
        for many in range(60, 130):
            desk = start_desk(Disk((0,) * many), wishes_of(()))
            for name in ("bbbbbb", "cccccc", "dddddd"):
                raised(desk.do, ("come", name, ()))
            before, events = state(desk), desk.disk.events()
            if raised(desk.pack) is not None:
                self.assertEqual(raised(desk.pack), ("Refused", "room"))
                self.assertEqual((state(desk), desk.disk.events()), (before, events))
                self.assertGreater(weight_of(desk.lodging), room(many))
                refused += 1
            self.assertEqual(state(again(desk)), state(desk))
        self.assertLess(refused, 70)


class CutTest(unittest.TestCase):
    def check_cuts(self, disk, already, befores, chance):
        """Wherever the call is cut, there is the desk of before, or behind it; when it has returned, the latter."""
        behind = self.told(cells_of(disk))
        for cells in cuts(disk, already, chance):
            self.assertIn(self.told(cells), (befores, behind))
        events = disk.events()
        self.assertEqual(pending_places(events), ())
        self.assertEqual(self.told(cut_cells(disk.cells, events, ())), behind)

    def told(self, cells):
        try:
            desk = Desk(Disk(cells))
        except Broken as error:
            assert error.word == "desk"
            return None
        lodging, begun = desk.lodging, desk.begun()
        return lodging.wishes.names, lodging.wishes.lists, lodging.pairing, desk.deeds(), begun.wishes.lists, begun.pairing

    def test_starting(self):
        chance = random.Random(795)
        for size in (120, 121, 300):
            disk = Disk((0,) * size)
            start_desk(disk, TWO)
            self.check_cuts(disk, 0, None, chance)
            before, already = self.told(cells_of(disk)), len(disk.events())
            start_desk(disk, wishes_of((1,), (0,)))
            self.assertNotEqual(self.told(cells_of(disk)), before)
            self.check_cuts(disk, already, before, chance)

    def test_each_call(self):
        chance = random.Random(796)
        calls = {"do": 0, "settle": 0, "undo": 0, "pack": 0}
        for size in (200, 260, 500):
            desk = start_desk(Disk((0,) * size), TWO)
            for _ in range(60):
                before, already = self.told(cells_of(desk.disk)), len(desk.disk.events())
                word = chance.choice(("do", "do", "do", "settle", "undo", "pack"))
                if word == "do":
                    error = raised(desk.do, some_deed(desk.lodging, chance))
                else:
                    error = raised(getattr(desk, word))
                if error is not None:
                    self.assertIn(error, (("Refused", "room"), ("Refused", "deeds")))
                    self.assertEqual(len(desk.disk.events()), already)
                    desk.pack()
                    continue
                calls[word] += 1
                self.check_cuts(desk.disk, already, before, chance)
                # A desk goes on from the cells that are there.
                if chance.random() < 0.3:
                    desk = again(desk)
        self.assertGreater(min(calls.values()), 5)

    def test_a_desk_goes_on_from_what_a_cut_left(self):
        chance = random.Random(797)
        for _ in range(40):
            desk = start_desk(Disk((0,) * chance.randint(400, 700)), random_wishes(chance, chance.randint(1, 4)))
            for _ in range(5):
                before, already = self.told(cells_of(desk.disk)), len(desk.disk.events())
                desk.do(some_deed(desk.lodging, chance))
                behind = self.told(cells_of(desk.disk))
                cells = chance.choice(list(cuts(desk.disk, already, chance)))
                desk = Desk(Disk(cells))
                self.assertIn(self.told(cells), (before, behind))
                self.assertEqual(desk.lodging, lodging_after_all(desk.begun(), desk.deeds()))

    def test_asking_makes_no_events(self):
        desk = start_desk(Disk((0,) * 600), squares(1))
        events = desk.disk.events()
        desk.deeds()
        desk.begun()
        raised(desk.undo)
        Desk(desk.disk)
        self.assertEqual(desk.disk.events(), events)


if __name__ == "__main__":
    unittest.main()
