"""What several tests share: random wishes, and values of every kind."""

import random
import string

from lastpairs.askedpapers import AnswerPaper, NeverPaper, WalkPaper
from lastpairs.best import FavouredPaper, LeastPaper
from lastpairs.desk import start_desk
from lastpairs.disk import Disk
from lastpairs.errors import Broken, InvalidWishes, MateError, Refused
from lastpairs.journal import Journal
from lastpairs.keptparting import KeptParting
from lastpairs.lodgings import Lodging
from lastpairs.mended import ComingPaper
from lastpairs.nearlypapers import AwayPaper, CalmPaper
from lastpairs.statuses import PairingPaper, RingPaper, StatusPaper
from lastpairs.wishes import Wishes

NAMES = tuple(sorted(one + other for one in string.ascii_lowercase for other in string.ascii_lowercase))


def wishes_of(*lists):
    """Wishes with short names and these lists."""
    return Wishes(NAMES[: len(lists)], tuple(tuple(some) for some in lists))


def random_wishes(chance, many, share=1.0):
    """Wishes in which each two persons are on each other's lists with some probability."""
    lists = [[] for _ in range(many)]
    for person in range(many):
        for other in range(person):
            if chance.random() < share:
                lists[person].append(other)
                lists[other].append(person)
    for some in lists:
        chance.shuffle(some)
    return wishes_of(*lists)


def many_wishes(seed, count, most, least=1):
    """Random wishes of all kinds and sizes, always the same for one seed."""
    chance = random.Random(seed)
    found = []
    for at in range(count):
        many = least + at % (most - least + 1)
        found.append(random_wishes(chance, many, chance.choice((0.3, 0.6, 0.8, 1.0, 1.0))))
    return found


def ring_wishes(many):
    """Wishes in which each person has all others, in the sequence of a ring from itself on."""
    return wishes_of(*[[(person + step) % many for step in range(1, many)] for person in range(many)])


def squares(many):
    """Wishes of so many pieces of four persons, each with two lasting pairings."""
    lists = []
    for first in range(0, 4 * many, 4):
        for some in ((1, 3), (2, 0), (3, 1), (0, 2)):
            lists.append([first + other for other in some])
    return wishes_of(*lists)


def two_sided_ring(many, first=0):
    """Lists of persons whose sides like each other in opposite sequences, round a ring."""
    return [[first + (person + step) % many for step in range(1, many, 2)] for person in range(many)]


def round_rings(*lengths):
    """Wishes of pieces of so many persons, each of whom would have its next one first, then the one before."""
    lists, first = [], 0
    for many in lengths:
        for at in range(many):
            lists.append(list(dict.fromkeys((first + (at + 1) % many, first + (at - 1) % many))) if many > 1 else [])
        first += many
    return wishes_of(*lists)


def side_by_side(*tables):
    """Wishes whose pieces are those of several wishes."""
    lists = []
    for wishes in tables:
        first = len(lists)
        lists.extend([[first + other for other in some] for some in wishes.lists])
    return wishes_of(*lists)


def linked(*tables):
    """Pieces side by side, of each of which the first person would rather have the second one of the next piece, who would not."""
    wishes = side_by_side(*tables)
    firsts = [sum(len(some.names) for some in tables[:at]) for at in range(len(tables))]
    lists = [list(some) for some in wishes.lists]
    for at, first in enumerate(firsts):
        lists[first].insert(0, firsts[at - 1] + 1)
        lists[firsts[at - 1] + 1].append(first)
    return wishes_of(*lists)


def crossed(many):
    """Two sides of so many persons, a power of two, with as many turns as there can be."""
    one = [[many + (at ^ step) for step in range(many)] for at in range(many)]
    return wishes_of(*one, *[[at ^ step for step in reversed(range(many))] for at in range(many)])


def ladder(many):
    """Two sides of so many persons, an even number, with as many choices: of every two neighbours of the one half hangs one of the other."""
    lists = [[many + at, many + (at ^ 1), many + (at + 2 if at & 1 else at - 2) % many] for at in range(many)]
    return wishes_of(*lists, *[[(at - 2 if at & 1 else at + 2) % many, at ^ 1, at] for at in range(many)])


def sixties():
    """Wishes of sixty persons, of many kinds."""
    chance = random.Random(60)
    everybody = [[other for other in range(60) if other != person] for person in range(60)]
    return [
        ring_wishes(60), wishes_of(*two_sided_ring(60)), squares(15), round_rings(*[3] * 20), round_rings(59, 1), wishes_of(*everybody),
        wishes_of(*[some[::-1] for some in everybody]), wishes_of(*[()] * 60),
    ] + [random_wishes(chance, 60, share) for share in (0.1, 0.4, 1.0, 1.0)]


class Hostile:
    """An object that fails at all that it is asked, but for its class."""

    def __getattribute__(self, name):
        if name == "__class__":
            return Hostile
        raise RuntimeError(name)

    def fail(self, *rest):
        raise RuntimeError("asked")

    __eq__ = __ne__ = __lt__ = __le__ = __gt__ = __ge__ = __len__ = __iter__ = __bool__ = __contains__ = fail
    __getitem__ = __index__ = __int__ = __add__ = __radd__ = __sub__ = __and__ = __call__ = fail
    __repr__ = __str__ = __format__ = __next__ = __mod__ = __neg__ = fail
    __hash__ = fail


class Posing:
    """An object that says that it is equal to everything, and has what others have."""

    names = ("a",)
    lists = ((),)
    pairing = ()
    wishes = None

    def __eq__(self, other):
        return True

    def __hash__(self):
        return 0

    def __len__(self):
        return 1

    def __iter__(self):
        return iter((0,))

    def __getitem__(self, at):
        return 0

    def __index__(self):
        return 0

    def __lt__(self, other):
        return True

    __gt__ = __le__ = __ge__ = __lt__


def deep_tuple():
    value = ()
    for _ in range(3000):
        value = (value,)
    return value


def zoo():
    """Values of every kind."""
    wishes = Wishes(("a", "b"), ((1,), (0,)))
    return [
        None, True, False, -1, 61, 300, 10**30, -(10**30), 0.0, 1.0, 1.5, float("nan"), float("inf"), 1j, "", "a", "0", " ",
        "zz", b"", b"a", bytearray(b"a"), [], [0], [[]], {}, {0: 1}, set(), frozenset({0}), range(2), iter(()),
        (value for value in ()), object(), Hostile(), Posing(), Hostile, int, len, print, deep_tuple(), wishes,
        Lodging(wishes, ()), Lodging(None, []), Disk((0,)), Journal(Disk((0,) * 9)), MateError("x"), Refused("word"),
        PairingPaper(Hostile()), PairingPaper(()), RingPaper(Hostile(), (0,)), RingPaper((0,), Posing()), StatusPaper(Posing(), "even", None),
        LeastPaper((), Hostile()), LeastPaper(None, Posing()), FavouredPaper((), Hostile()), ComingPaper(Hostile(), Posing()),
        CalmPaper((), Hostile()), CalmPaper(Posing(), (0,)), AwayPaper(Hostile(), (), ()), AwayPaper((0,), Posing(), None),
        AnswerPaper(Hostile()), NeverPaper(Hostile()), NeverPaper(True), WalkPaper(Hostile()), WalkPaper((Hostile(),)), WalkPaper(()),
        KeptParting(wishes), start_desk(Disk((0,) * 200), wishes), Broken(None), InvalidWishes(0), Refused, Wishes, wishes_of, Ellipsis, NotImplemented, ("settle",), ((),),
        (None,), (True,), ((0, True),), ((False, 1),), ("a",), ([],), (Hostile(),), (Posing(),), ((Hostile(), Hostile()),),
        ([0, 1],), ("with", Hostile(), 1), (Hostile(), 0, 1), ((0, 1.0),), (0.0,), (-1,), ((-1, 0),), ((1, 0),), ((0, 0),),
    ]


def wrong_forms(value):
    """Values that are like a value but for one part that is of another kind or not there."""
    for other in zoo():
        yield other
    if isinstance(value, bool):
        return
    if isinstance(value, int):
        yield float(value)
        yield str(value)
        if value in (0, 1):
            yield bool(value)
    if isinstance(value, str):
        yield value.encode()
        yield value + "A"
        yield value + " "
        yield tuple(value)
    if isinstance(value, tuple):
        yield list(value)
        yield dict.fromkeys(range(len(value)), 0)
        yield (value,)
        for at, part in enumerate(value):
            yield value[:at] + value[at + 1:]
            yield value[:at] + (part,) + value[at:]
            for instead in wrong_forms(part):
                yield value[:at] + (instead,) + value[at + 1:]
        for extra in (None, 0, (), (0, 1), "a"):
            yield value + (extra,)


def is_plain(value):
    """Whether a value is of plain numbers, strings, None and tuples, and so safe to compare."""
    waiting, seen = [value], 0
    while waiting:
        part = waiting.pop()
        seen += 1
        if seen > 1000:
            return False
        if isinstance(part, tuple):
            waiting.extend(part)
        elif isinstance(part, bool) or not (part is None or isinstance(part, (str, int))):
            return False
    return True


def raised(call, *told):
    """The error that a call raises, as a tuple of its class and its attributes, or None."""
    try:
        call(*told)
    except MateError as error:
        return (error.__class__.__name__, *vars(error).values())
    return None


def shaken(wishes, chance, swaps, gone=0):
    """Wishes in which some who are next to one another on a list have changed places, and some pairs are gone."""
    lists = [list(some) for some in wishes.lists]
    for _ in range(gone):
        person = chance.randrange(len(lists))
        if lists[person]:
            other = chance.choice(lists[person])
            lists[person].remove(other)
            lists[other].remove(person)
    for _ in range(swaps):
        some = chance.choice(lists)
        if len(some) > 1:
            at = chance.randrange(1, len(some))
            some[at - 1], some[at] = some[at], some[at - 1]
    return wishes_of(*lists)


def rich_wishes(seed, count):
    """Wishes of up to twelve persons that mostly have several turns, free ones, sure ones and odd ones."""
    chance = random.Random(seed)
    shapes = (
        crossed(4), crossed(4), ring_wishes(8), wishes_of(*two_sided_ring(8)), wishes_of(*two_sided_ring(10)), squares(3), ring_wishes(10),
        side_by_side(round_rings(3), squares(2)), side_by_side(ring_wishes(6), squares(1)), side_by_side(crossed(4), round_rings(3)),
        side_by_side(ring_wishes(6), round_rings(3)), ring_wishes(7),
    )
    return [shaken(shapes[at % len(shapes)], chance, chance.choice((0, 1, 2, 3, 5, 8)), chance.choice((0, 0, 1, 2))) for at in range(count)]
