"""Point 77: lodgings and deeds."""

import random
import unittest

from lastpairs.lodgings import Lodging, is_deed, is_lodging, lodging_after, lodging_after_all
from lastpairs.wishes import Wishes
from tests import naive
from tests.helpers import NAMES, Posing, many_wishes, ring_wishes, wishes_of, wrong_forms, zoo

KITE = Wishes(("b", "d", "f", "h", "j"), ((1, 3), (2, 0), (3, 1), (0, 2, 4), (3,)))
LODGING = Lodging(KITE, ((0, 3), (1, 2)))
OTHER = Lodging(KITE, ((3, 4),))


class LodgingTest(unittest.TestCase):
    def test_attributes(self):
        self.assertIs(LODGING.wishes, KITE)
        self.assertEqual(LODGING.pairing, ((0, 3), (1, 2)))
        self.assertIsNone(Lodging(wishes=None, pairing=3).wishes)
        for value in zoo():
            lodging = Lodging(value, value)
            self.assertIs(lodging.wishes, value)
            self.assertIs(lodging.pairing, value)
        some = []
        self.assertIs(Lodging(KITE, some).pairing, some)

    def test_equality(self):
        self.assertTrue(LODGING == Lodging(Wishes(KITE.names, KITE.lists), ((0, 3), (1, 2))))
        self.assertFalse(LODGING != Lodging(KITE, ((0, 3), (1, 2))))
        self.assertFalse(LODGING == OTHER)
        self.assertFalse(LODGING == Lodging(wishes_of((), (), (), (), ()), ((0, 3), (1, 2))))
        self.assertFalse(LODGING == KITE)
        self.assertFalse(Lodging(None, ()) == Posing())
        for value in zoo():
            self.assertIs(LODGING.__eq__(value), False)

    def test_is_lodging(self):
        self.assertIs(is_lodging(LODGING), True)
        self.assertIs(is_lodging(Lodging(KITE, ())), True)
        # A pairing that does not last is in force, too.
        self.assertIs(is_lodging(OTHER), True)
        self.assertIs(is_lodging(KITE), False)
        for pairing in (((0, 2),), ((1, 0),), [(0, 1)], ((0, 1), (1, 2)), None, ((False, 1),)):
            self.assertIs(is_lodging(Lodging(KITE, pairing)), False)
        for value in zoo():
            self.assertIs(is_lodging(value), isinstance(value, Lodging) and value.pairing == ())
            if not isinstance(value, Wishes):
                self.assertIs(is_lodging(Lodging(value, ())), False)
            self.assertIs(is_lodging(Lodging(KITE, value)), type(value) is tuple and value == ())
        for value in wrong_forms(((0, 3), (1, 2))):
            self.assertIs(is_lodging(Lodging(KITE, value)), naive.is_pairing(KITE, value))


DEEDS = (
    ("come", "a", ()), ("come", "c", ((3, 0), (0, 2))), ("come", "zzzzzz", ((4, 1), (1, 1), (0, 0), (2, 2), (3, 3))), ("go", 0), ("go", 4),
    ("list", 3, (4, 0, 2)), ("list", 4, (3,)), ("part", 0, 3), ("part", 3, 4), ("meet", 0, 2, 0, 2), ("meet", 1, 4, 2, 0), ("meet", 0, 4, 1, 1),
    ("join", 0, 1), ("join", 0, 3), ("settle", ((0, 3), (1, 2))), ("settle", ((0, 1), (2, 3))),
)


def is_deed_by_words(lodging, value):
    if type(value) is not tuple or not value or type(value[0]) is not str:
        return False
    wishes, rest = lodging.wishes, value[1:]
    many = len(wishes.names)

    def is_person(value):
        return naive.is_number(value) and value < many

    def is_index(person, value):
        return naive.is_number(value) and value <= len(wishes.lists[person])

    if value[0] == "come":
        if len(rest) != 2 or not naive.is_name(rest[0]) or rest[0] in wishes.names or type(rest[1]) is not tuple or many == 60:
            return False
        for place in rest[1]:
            if type(place) is not tuple or len(place) != 2 or not is_person(place[0]) or not is_index(*place):
                return False
        return len({person for person, _ in rest[1]}) == len(rest[1])
    if value[0] == "go":
        return len(rest) == 1 and is_person(rest[0]) and many >= 2
    if value[0] == "list":
        if len(rest) != 2 or not is_person(rest[0]) or type(rest[1]) is not tuple or not all(map(is_person, rest[1])):
            return False
        return sorted(rest[1]) == sorted(wishes.lists[rest[0]])
    if value[0] == "settle":
        return len(rest) == 1 and naive.is_pairing(wishes, rest[0]) and not naive.blocks(wishes, rest[0])
    if value[0] not in ("part", "meet", "join") or len(rest) != (4 if value[0] == "meet" else 2):
        return False
    if not is_person(rest[0]) or not is_person(rest[1]) or not rest[0] < rest[1]:
        return False
    if value[0] == "part":
        return rest in naive.pairs(wishes)
    if value[0] == "join":
        return rest in naive.blocks(wishes, lodging.pairing)
    return rest[:2] not in naive.pairs(wishes) and is_index(rest[0], rest[2]) and is_index(rest[1], rest[3])


class DeedTest(unittest.TestCase):
    def test_deeds(self):
        for deed in DEEDS:
            self.assertIs(is_deed(Lodging(KITE, ()), deed), True, deed)
        self.assertIs(is_deed(lodging=LODGING, value=("part", 0, 1)), True)

    def test_wrong(self):
        for value in (
            ("come", "b", ()), ("come", "A", ()), ("come", "abcdefg", ()), ("come", "a", ((5, 0),)), ("come", "a", ((0, 3),)),
            ("come", "a", ((4, 2),)), ("come", "a", ((0, 0), (0, 1))), ("come", "a", [(0, 0)]), ("come", "a", ([0, 0],)), ("come", "a"),
            ("come", "a", ((0, True),)), ("come", "a", ((False, 0),)), ("come", "a", ((0, -1),)), ("come", "a", ((0, 0, 0),)),
            ("come", "a", (), ()), ("go", 5), ("go", True), ("go", "b"), ("go",), ("go", 0, 1), ("list", 0, (1,)), ("list", 0, (1, 3, 3)),
            ("list", 0, [1, 3]), ("list", 5, ()), ("list", 0, (True, 3)), ("part", 0, 2), ("part", 1, 0), ("part", 0, 5), ("part", 0),
            ("part", False, True), ("part", 0, 1, 2), ("part", 0, 0), ("meet", 0, 1, 0, 0), ("meet", 2, 0, 0, 0), ("meet", 0, 2, 3, 0),
            ("meet", 0, 2, 0, 3), ("meet", 0, 2, 0), ("meet", 0, 2), ("meet", 0, 0, 0, 0), ("meet", 0, 2, True, 0), ("meet", 0, 2, 0, 0, 0),
            ("meet", 0, 5, 0, 0), ("join", 0, 2), ("join", 1, 0), ("join", 0, 5), ("join", 0), ("settle", ()), ("settle", ((0, 1), (3, 4))),
            ("settle", [(0, 3), (1, 2)]), ("settle", ((1, 2), (0, 3))), ("settle",), ("settle", None), ("stay", 0), ["go", 0], "go", None, (),
            ("settle", ((0, 3), (1, 2)), 0), (("go", 0),), ("Go", 0), ("undo",),
        ):
            self.assertIs(is_deed(Lodging(KITE, ()), value), False, value)

    def test_joins_hang_on_the_pairing(self):
        self.assertIs(is_deed(LODGING, ("join", 0, 1)), False)
        self.assertIs(is_deed(LODGING, ("join", 0, 3)), False)
        self.assertEqual([is_deed(OTHER, ("join",) + pair) for pair in naive.pairs(KITE)], [True, True, True, True, False])

    def test_any_values(self):
        for value in zoo():
            self.assertIs(is_deed(LODGING, value), False)
        for deed in DEEDS:
            for value in wrong_forms(deed):
                self.assertIs(is_deed(OTHER, value), is_deed_by_words(OTHER, value))

    def test_many_and_few(self):
        one = Lodging(wishes_of(()), ())
        self.assertIs(is_deed(one, ("go", 0)), False)
        self.assertIs(is_deed(Lodging(wishes_of((), ()), ()), ("go", 0)), True)
        self.assertIs(is_deed(one, ("come", "zz", ((0, 0),))), True)
        self.assertIs(is_deed(one, ("settle", ())), True)
        full = Lodging(ring_wishes(60), ())
        self.assertIs(is_deed(full, ("come", "zz", ())), False)
        less = lodging_after(full, ("go", 59))
        self.assertIs(is_deed(less, ("come", "zz", ())), True)
        deed = ("come", "zz", tuple((person, 58) for person in range(59)))
        self.assertIs(is_deed(less, deed), True)
        self.assertEqual(len(lodging_after(less, deed).wishes.names), 60)
        self.assertIs(is_deed(lodging_after(less, deed), ("come", "zy", ())), False)


class AfterTest(unittest.TestCase):
    def check(self, lodging, deed, names, lists, pairing):
        after = lodging_after(lodging, deed)
        self.assertIs(is_lodging(after), True)
        self.assertEqual((after.wishes.names, after.wishes.lists, after.pairing), (names, lists, pairing))
        self.assertEqual(after, lodging_after_all(lodging, (deed,)))

    def test_come(self):
        self.check(LODGING, ("come", "c", ((3, 0), (0, 2))), ("b", "c", "d", "f", "h", "j"),
                   ((2, 4, 1), (4, 0), (3, 0), (4, 2), (1, 0, 3, 5), (4,)), ((0, 4), (2, 3)))
        self.check(LODGING, ("come", "a", ((4, 1), (1, 1))), ("a", "b", "d", "f", "h", "j"),
                   ((5, 2), (2, 4), (3, 0, 1), (4, 2), (1, 3, 5), (4, 0)), ((1, 4), (2, 3)))
        self.check(OTHER, ("come", "z", ()), ("b", "d", "f", "h", "j", "z"), KITE.lists + ((),), ((3, 4),))

    def test_go(self):
        self.check(LODGING, ("go", 0), ("d", "f", "h", "j"), ((1,), (2, 0), (1, 3), (2,)), ((0, 1),))
        self.check(LODGING, ("go", 4), ("b", "d", "f", "h"), ((1, 3), (2, 0), (3, 1), (0, 2)), ((0, 3), (1, 2)))
        self.check(LODGING, ("go", 2), ("b", "d", "h", "j"), ((1, 2), (0,), (0, 3), (2,)), ((0, 2),))

    def test_list(self):
        self.check(LODGING, ("list", 3, (4, 0, 2)), KITE.names, KITE.lists[:3] + ((4, 0, 2), (3,)), LODGING.pairing)
        self.assertEqual(lodging_after(LODGING, ("list", 0, (1, 3))), LODGING)

    def test_part(self):
        self.check(LODGING, ("part", 0, 3), KITE.names, ((1,), (2, 0), (3, 1), (2, 4), (3,)), ((1, 2),))
        self.check(LODGING, ("part", 3, 4), KITE.names, ((1, 3), (2, 0), (3, 1), (0, 2), ()), LODGING.pairing)

    def test_meet(self):
        self.check(LODGING, ("meet", 0, 4, 1, 0), KITE.names, ((1, 4, 3), (2, 0), (3, 1), (0, 2, 4), (0, 3)), LODGING.pairing)
        self.check(LODGING, ("meet", 0, 2, 2, 0), KITE.names, ((1, 3, 2), (2, 0), (0, 3, 1), (0, 2, 4), (3,)), LODGING.pairing)

    def test_join(self):
        self.check(OTHER, ("join", 0, 3), KITE.names, KITE.lists, ((0, 3),))
        self.check(OTHER, ("join", 0, 1), KITE.names, KITE.lists, ((0, 1), (3, 4)))
        self.check(Lodging(KITE, ((0, 1), (3, 4))), ("join", 2, 3), KITE.names, KITE.lists, ((0, 1), (2, 3)))
        self.check(Lodging(KITE, ((0, 1), (3, 4))), ("join", 1, 2), KITE.names, KITE.lists, ((1, 2), (3, 4)))

    def test_settle(self):
        self.check(OTHER, ("settle", ((0, 1), (2, 3))), KITE.names, KITE.lists, ((0, 1), (2, 3)))

    def test_all(self):
        self.assertEqual(lodging_after_all(LODGING, ()), LODGING)
        deeds = (("come", "a", ((0, 0),)), ("join", 0, 1), ("go", 5), ("part", 0, 1))
        after = lodging_after_all(lodging=Lodging(KITE, ()), deeds=deeds)
        self.assertEqual(after, Lodging(Wishes(("a", "b", "d", "f", "h"), ((), (2, 4), (3, 1), (4, 2), (1, 3))), ()))

    def test_deeds_by_names(self):
        """Told by names, a deed changes just what it should."""
        chance = random.Random(77)
        for wishes in many_wishes(77, 40, 6):
            lodging = Lodging(wishes, chance.choice(naive.pairings(wishes)))
            for _ in range(12):
                deed = self.some_deed(lodging, chance)
                if not is_deed_by_words(lodging, deed):
                    self.assertIs(is_deed(lodging, deed), False)
                    continue
                self.assertIs(is_deed(lodging, deed), True)
                after = lodging_after(lodging, deed)
                self.assertEqual(told(after), self.expected(lodging, deed))
                self.assertIs(is_lodging(after), True)
                lodging = after

    def some_deed(self, lodging, chance):
        many = len(lodging.wishes.names)
        persons = [chance.randrange(many) for _ in range(2)]
        one, other = min(persons), max(persons)
        some = list(lodging.wishes.lists[one])
        chance.shuffle(some)
        places = [(person, chance.randint(0, len(lodging.wishes.lists[person]))) for person in range(many) if chance.random() < 0.6]
        chance.shuffle(places)
        blocking = naive.blocks(lodging.wishes, lodging.pairing)
        lasting = naive.lasting(lodging.wishes) if many < 8 else ()
        return chance.choice((
            ("come", chance.choice(NAMES) + "x", tuple(places)) if many < 9 else ("go", one), ("go", one), ("list", one, tuple(some)),
            ("part", one, other), ("meet", one, other, chance.randint(0, 2), chance.randint(0, 2)),
            ("join",) + (chance.choice(blocking) if blocking else (one, other)),
            ("settle", chance.choice(lasting) if lasting else lodging.pairing),
        ))

    def expected(self, lodging, deed):
        lists, pairs = told(lodging)
        names = lodging.wishes.names
        if deed[0] == "come":
            for person, at in deed[2]:
                lists[names[person]].insert(at, deed[1])
            lists[deed[1]] = [names[person] for person, _ in deed[2]]
        elif deed[0] == "go":
            gone = names[deed[1]]
            del lists[gone]
            lists = {name: [other for other in some if other != gone] for name, some in lists.items()}
            pairs = [pair for pair in pairs if gone not in pair]
        elif deed[0] == "list":
            lists[names[deed[1]]] = [names[other] for other in deed[2]]
        elif deed[0] == "settle":
            pairs = [tuple(names[person] for person in pair) for pair in deed[1]]
        else:
            one, other = names[deed[1]], names[deed[2]]
            if deed[0] == "part":
                lists[one].remove(other)
                lists[other].remove(one)
                pairs = [pair for pair in pairs if pair != (one, other)]
            elif deed[0] == "meet":
                lists[one].insert(deed[3], other)
                lists[other].insert(deed[4], one)
            else:
                pairs = sorted([pair for pair in pairs if one not in pair and other not in pair] + [(one, other)])
        return lists, pairs


def told(lodging):
    """The lists and the pairs of a lodging by names."""
    names = lodging.wishes.names
    lists = {name: [names[other] for other in some] for name, some in zip(names, lodging.wishes.lists)}
    return lists, [(names[one], names[other]) for one, other in lodging.pairing]


if __name__ == "__main__":
    unittest.main()
