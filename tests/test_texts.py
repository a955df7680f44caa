"""Points 11 to 14: marks, reading, completing, showing."""

import random
import unittest
from itertools import combinations, permutations, product

from lastpairs.errors import InvalidText
from lastpairs.lexer import marks_of
from lastpairs.printer import show_pairing, show_parting, show_wishes
from lastpairs.reader import (
    completed_pairing, completed_parting, completed_wishes, read_pairing, read_parting, read_wishes,
)
from lastpairs.wishes import Wishes
from tests import naive
from tests.helpers import NAMES, many_wishes, raised, random_wishes, ring_wishes, squares, wishes_of, zoo

FOUR = Wishes(("fir", "lark", "moss", "wren"), ((1, 2), (2, 0), (0, 1), ()))
# A ring of four, with a tail of one and somebody alone.
KITE = Wishes(("a", "b", "c", "d", "e", "f"), ((1, 3), (2, 0), (3, 1), (0, 2, 4), (3,), ()))


def words(text):
    return [mark for _, _, mark in marks_of(text)]


class MarksTest(unittest.TestCase):
    def test_ordinary(self):
        self.assertEqual(marks_of("ann: bob12cid\n\n ,"), (
            (0, 0, "ann"), (0, 3, ":"), (0, 5, "bob"), (0, 8, "12"), (0, 10, "cid"), (0, 13, "\n"), (1, 0, "\n"), (2, 1, ","),
        ))
        self.assertEqual(marks_of(text="Ann"), ((0, 0, "A"), (0, 1, "nn")))
        self.assertEqual(marks_of("::"), ((0, 0, ":"), (0, 1, ":")))
        self.assertEqual(marks_of("12ab34"), ((0, 0, "12"), (0, 2, "ab"), (0, 4, "34")))

    def test_nothing_but_blanks_and_newlines(self):
        self.assertEqual(marks_of(""), ())
        self.assertEqual(marks_of("   "), ())
        self.assertEqual(marks_of("\n"), ((0, 0, "\n"),))
        self.assertEqual(marks_of("  \n \n"), ((0, 2, "\n"), (1, 1, "\n")))

    def test_every_sign(self):
        for sign in map(chr, range(32, 127)):
            self.assertEqual(marks_of(sign), () if sign == " " else ((0, 0, sign),))
            run = sign.isalnum() and not sign.isupper()
            expected = () if sign == " " else ((0, 0, sign + sign),) if run else ((0, 0, sign), (0, 1, sign))
            self.assertEqual(marks_of(sign + sign), expected)
        self.assertEqual(marks_of("abcdefghijklmnopqrstuvwxyz0123456789"), (
            (0, 0, "abcdefghijklmnopqrstuvwxyz"), (0, 26, "0123456789"),
        ))

    def test_marks_stand_where_they_say(self):
        chance = random.Random(11)
        for _ in range(300):
            text = "".join(chance.choice("ab z09\n:,A~") for _ in range(chance.randint(0, 20)))
            lines = [line + "\n" for line in text.split("\n")]
            marks = marks_of(text)
            self.assertEqual(list(marks), sorted(marks, key=lambda mark: mark[:2]))
            for line, at, mark in marks:
                self.assertEqual(lines[line][at:at + len(mark)], mark)
            self.assertEqual("".join(mark for _, _, mark in marks), text.replace(" ", ""))


class ShowTest(unittest.TestCase):
    def test_ordinary(self):
        self.assertEqual(show_wishes(FOUR), "fir: lark moss\nlark: moss fir\nmoss: fir lark\nwren:")
        self.assertEqual(show_wishes(wishes=wishes_of(())), "aa:")
        self.assertEqual(show_pairing(KITE, ((0, 1), (2, 3))), "a b, c d")
        self.assertEqual(show_pairing(wishes=KITE, pairing=()), "")
        self.assertEqual(show_parting(KITE, (1, 2, 3, 0, 4, 5)), "a b c d")
        self.assertEqual(show_parting(KITE, (3, 0, 1, 2, 4, 5)), "a d c b")
        self.assertEqual(show_parting(KITE, (1, 0, 3, 2, 4, 5)), "a b, c d")
        self.assertEqual(show_parting(wishes=KITE, parting=(0, 2, 1, 4, 3, 5)), "b c, d e")
        self.assertEqual(show_parting(KITE, (0, 1, 2, 3, 4, 5)), "")

    def test_read_again(self):
        for wishes in many_wishes(14, 60, 6) + [ring_wishes(60), squares(15), wishes_of(*[()] * 60)]:
            self.assertEqual(read_wishes(show_wishes(wishes)), wishes)
            if len(wishes.names) > 6:
                continue
            for pairing in naive.pairings(wishes):
                self.assertEqual(read_pairing(wishes, show_pairing(wishes, pairing)), pairing)
            for parting in naive.partings(wishes):
                self.assertEqual(read_parting(wishes, show_parting(wishes, parting)), parting)

    def test_blanks(self):
        for wishes in many_wishes(15, 20, 5):
            for text in [show_wishes(wishes)] + [show_parting(wishes, parting) for parting in naive.partings(wishes)]:
                for bad in ("  ", " :", " ,", " \n", "\n\n"):
                    self.assertNotIn(bad, text)
                self.assertEqual(text, text.strip())


class WishesTextTest(unittest.TestCase):
    def refused(self, text, line, at):
        self.assertEqual(raised(read_wishes, text), ("InvalidText", line, at), text)

    def ends(self, text):
        """No mark is refused, but more would be needed."""
        line, at = text.count("\n"), len(text.split("\n")[-1])
        self.refused(text, line, at)
        whole = completed_wishes(text)
        self.assertTrue(whole.startswith(text))
        self.assertEqual(words(whole)[: len(words(text))], words(text))
        read_wishes(whole)

    def both_refused(self, text, line, at):
        self.refused(text, line, at)
        self.assertEqual(raised(completed_wishes, text), ("InvalidText", line, at), text)

    def test_written_in_any_way(self):
        wishes = Wishes(("ann", "bob", "cid"), ((1, 2), (2, 0), (0, 1)))
        lines = ("ann: bob cid", "bob: cid ann", "cid: ann bob")
        for order in permutations(lines):
            self.assertEqual(read_wishes("\n".join(order)), wishes)
            self.assertEqual(read_wishes("\n\n  " + " \n \n\n".join(order) + "\n \n"), wishes)
            self.assertEqual(read_wishes("\n".join(line.replace(":", "  :  ") + "  " for line in order)), wishes)
        self.assertEqual(read_wishes(text="ann:bob\nbob:ann"), Wishes(("ann", "bob"), ((1,), (0,))))
        self.assertEqual(read_wishes("a:"), Wishes(("a",), ((),)))
        self.assertEqual(read_wishes("b:\na:\n"), Wishes(("a", "b"), ((), ())))

    def test_no_string(self):
        for value in zoo():
            if type(value) is not str:
                for call in (read_wishes, completed_wishes):
                    self.assertEqual(raised(call, value), ("InvalidText", -1, -1))
                for call in (read_pairing, read_parting, completed_pairing, completed_parting):
                    self.assertEqual(raised(call, FOUR, value), ("InvalidText", -1, -1))

    def test_ends(self):
        for text in ("", "  ", "\n", " \n ", "ann", "ann ", "ann: bob", "ann: bob\n", "ann: bob\nbob", "ann: bob\nbob:",
                     "ann: bob\nbob: ", "ann: bob cid\nbob: ann\n\ncid:", "ann: bob cid\ncid: ann", "a: b\nc: b\nb: a"):
            self.ends(text)

    def test_marks_refused(self):
        for text, line, at in (
            (":", 0, 0), (",", 0, 0), ("1", 0, 0), ("Ann:", 0, 0), ("aNN:", 0, 1), ("abcdefg:", 0, 0), ("ann bob", 0, 4),
            ("ann\n", 0, 3), ("ann  \n:", 0, 5), ("ann::", 0, 4), ("ann: ann", 0, 5), ("ann: bob bob", 0, 9),
            ("ann: bob, cid", 0, 8), ("ann: 1", 0, 5), ("ann: abcdefg", 0, 5), ("ann:\nann:", 1, 0), ("ann: bob\nbob: cid\n", 1, 8),
            ("ann:\nbob: ann", 1, 5), ("ann: bob\nbob:\n", 1, 4), ("ann: bob\nann", 1, 0), ("\n\n ann: -", 2, 6),
            ("ann: bob\ncid: ann", 1, 5), ("ann: b2", 0, 6), ("ann: bob:", 0, 8), ("a: b\nc: b\nb: a\n", 2, 4),
            ("a: b\nb: a\nc: b", 2, 3), ("ann:bob\nbob:ann cid\ncid:\n", 2, 4), ("a\t:", 0, 1), ("a:\n\nb: a", 2, 3),
        ):
            self.both_refused(text, line, at)

    def test_sixty_persons_and_one_more(self):
        text = "\n".join(name + ":" for name in NAMES[:60])
        self.assertEqual(read_wishes(text).names, NAMES[:60])
        self.both_refused(text + "\n" + NAMES[60], 60, 0)
        self.both_refused(text + "\n" + NAMES[60] + ":", 60, 0)
        text = "aa: " + " ".join(NAMES[1:60])
        self.ends(text)
        self.ends(text + "\n")
        self.both_refused(text + " zz", 0, len(text) + 1)
        self.both_refused(text + "\nzz: aa", 1, 0)
        self.assertEqual(len(read_wishes(completed_wishes(text)).names), 60)
        lines = [name + ":" for name in NAMES[:59]]
        text = "\n".join(lines) + "\nzz: "
        self.assertEqual(len(read_wishes(text).names), 60)
        self.both_refused(text + "zy", 59, 4)

    def test_all_small_texts(self):
        """Each beginning of a text goes on just with those marks with which some text begins."""
        texts = {marks for many in (1, 2, 3) for names in combinations("abc", many) for marks in texts_of_wishes(names)}
        begun = {marks[:many] for marks in texts for many in range(len(marks) + 1)}
        for marks in sorted(begun):
            for mark in ("a", "b", "c", ":", "\n", ",", "7", "abcdefg"):
                if mark == "\n" and (not marks or marks[-1] == "\n"):
                    continue
                # An empty line may stand before the last mark of a text, too.
                possible = marks + (mark,) in begun or (mark == "\n" and marks in texts)
                error = raised(read_wishes, " ".join(marks + (mark,)))
                self.assertEqual(self.is_refused(error, marks, mark), not possible, (marks, mark))
            error = raised(read_wishes, " ".join(marks))
            self.assertEqual(error is None, marks in texts or (marks[-1:] == ("\n",) and marks[:-1] in texts), marks)
            whole = completed_wishes(" ".join(marks))
            self.assertEqual(tuple(words(whole))[: len(marks)], marks)
            self.assertTrue(whole.startswith(" ".join(marks)))
            read_wishes(whole)

    def is_refused(self, error, marks, mark):
        if error is None:
            return False
        line = marks.count("\n")
        text = " ".join(marks + (mark,))
        before = " ".join(marks) + " " if marks else ""
        if error[1:] == (line, len(before) - before.rfind("\n") - 1):
            return True
        self.assertEqual(error[1:], (text.count("\n"), len(text) - text.rfind("\n") - 1))
        return False

    def test_broken_texts(self):
        chance = random.Random(13)
        for wishes in many_wishes(13, 60, 6):
            lines = show_wishes(wishes).split("\n")
            chance.shuffle(lines)
            text = "\n".join(lines)
            at = chance.randrange(len(text) + 1)
            for other in (text[:at], text[:at] + chance.choice("ab: \n,1A") + text[at:], text[:at] + text[at + 1:]):
                error = raised(read_wishes, other)
                try:
                    whole = completed_wishes(other)
                except InvalidText as refused:
                    self.assertEqual(error, ("InvalidText", refused.line, refused.at))
                    continue
                read_wishes(whole)
                if error is not None:
                    self.assertEqual(error[1:], (other.count("\n"), len(other.split("\n")[-1])))


def texts_of_wishes(names):
    """The marks of all texts of wishes with these names, without empty lines."""
    pairs = [(i, j) for j in range(len(names)) for i in range(j)]
    for chosen in product((False, True), repeat=len(pairs)):
        lists = [[] for _ in names]
        for (i, j), wished in zip(pairs, chosen):
            if wished:
                lists[i].append(names[j])
                lists[j].append(names[i])
        for ordered in product(*[permutations(some) for some in lists]):
            lines = [(name, ":") + some for name, some in zip(names, ordered)]
            for order in permutations(lines):
                marks = order[0]
                for line in order[1:]:
                    marks += ("\n",) + line
                yield marks


def texts_of_rings(rows):
    """The marks of all texts of some rings, in any sequence; each is told in several ways."""
    for order in permutations(rows):
        for told in product(*order):
            marks = ()
            for ring in told:
                marks += ((",",) if marks else ()) + ring
            yield marks


class RingsTextTest(unittest.TestCase):
    def test_written_in_any_way(self):
        for text in ("a b, c d", "c d,a b", "b a , d c", "  d c,  b a  ", "a b,c d"):
            self.assertEqual(read_pairing(KITE, text), ((0, 1), (2, 3)))
            self.assertEqual(read_parting(KITE, text), (1, 0, 3, 2, 4, 5))
        for text in ("a b c d", "b c d a", "d a b c", " c d a b "):
            self.assertEqual(read_parting(KITE, text), (1, 2, 3, 0, 4, 5))
        self.assertEqual(read_parting(KITE, "d c b a"), (3, 0, 1, 2, 4, 5))
        self.assertEqual(read_pairing(wishes=KITE, text="e d"), ((3, 4),))
        self.assertEqual(read_parting(wishes=KITE, text="e d, c b"), (0, 2, 1, 4, 3, 5))

    def test_without_marks(self):
        for text in ("", "   "):
            self.assertEqual(read_pairing(KITE, text), ())
            self.assertEqual(read_parting(KITE, text), (0, 1, 2, 3, 4, 5))
            self.assertEqual(completed_pairing(KITE, text).strip(), show_pairing(KITE, read_pairing(KITE, text)))
            read_parting(KITE, completed_parting(KITE, text))

    def check(self, calls, text, at):
        for call in calls:
            self.assertEqual(raised(call, KITE, text), ("InvalidText", 0, at), (call, text))

    def test_pairings_refused(self):
        calls = (read_pairing, completed_pairing)
        for text, at in (
            ("f", 0), ("f a", 0), ("a c", 2), ("a a", 2), ("a b c", 4), ("a b a", 4), (", a b", 0), ("a,", 1), ("a b,,", 4),
            ("a b c d", 4), ("a b, d e,", 8), ("a b, a", 5), ("a b, d e, c", 8), ("a d, e", 5), ("a d, b c,", 8), ("z", 0),
            ("a:", 1), ("a b:", 3), ("\n", 0), ("a b\n", 3), ("a\nb", 1), ("A b", 0), ("a1", 1), ("1", 0), ("ab", 0),
            ("b a, c d, e", 8), ("d e, c b, a", 8), ("a b, e c", 7), ("a e", 2),
        ):
            self.check(calls, text, at)

    def test_partings_refused(self):
        calls = (read_parting, completed_parting)
        for text, at in (
            ("f", 0), ("a c", 2), ("a a", 2), ("a b a", 4), ("a b c,", 5), ("a b c d e", 8), ("a b c d a", 8), (", a", 0), ("a,", 1),
            ("a d e", 4), ("a b c d,", 7), ("d e,c b,a", 7), ("a b,c d,", 7), ("a d, e", 5), ("a b,,", 4), ("z", 0), ("a b\n", 3),
            ("a b, c d\n", 8), ("a:", 1), ("a b c e", 6), ("e d c", 4), ("e d a", 4), ("d a b e", 6), ("d c e", 4), ("a b, d e, c", 8),
        ):
            self.check(calls, text, at)

    def test_ends(self):
        for text in ("a", " a ", "a b,", "a b, d", "a b ,  ", "e"):
            self.check((read_pairing, read_parting), text, len(text))
            for read, complete in ((read_pairing, completed_pairing), (read_parting, completed_parting)):
                whole = complete(KITE, text)
                self.assertTrue(whole.startswith(text))
                read(KITE, whole)
        for text in ("a b c", "b c d", "a d c  "):
            self.check((read_parting,), text, len(text))
            self.assertEqual(len(words(completed_parting(KITE, text))), 4)

    def test_all_small_texts(self):
        """Each beginning of a text goes on just with those marks with which some text begins."""
        for wishes in [KITE, FOUR] + many_wishes(12, 14, 5):
            pairings = [[ways_to_tell(wishes, pair) for pair in pairing] for pairing in naive.pairings(wishes)]
            self.check_all(wishes, pairings, read_pairing, completed_pairing)
            partings = []
            for parting in naive.partings(wishes):
                partings.append([ways_to_tell(wishes, ring) for ring in rings_of(parting) if len(ring) > 1])
            self.check_all(wishes, partings, read_parting, completed_parting)

    def check_all(self, wishes, rows, read, complete):
        texts = {marks for some in rows for marks in texts_of_rings(some)}
        begun = {marks[:many] for marks in texts for many in range(len(marks) + 1)}
        for marks in begun:
            text = " ".join(marks)
            for mark in wishes.names + (",", ":", "\n", "7", "zz"):
                at = len(text) + 1 if marks else 0
                error = raised(read, wishes, " ".join(marks + (mark,)))
                whole = " ".join(marks + (mark,))
                if marks + (mark,) in texts:
                    self.assertIsNone(error)
                elif marks + (mark,) in begun:
                    self.assertEqual(error, ("InvalidText", 0, len(whole)))
                else:
                    self.assertEqual(error, ("InvalidText", 0, at), whole)
                    self.assertEqual(raised(complete, wishes, whole + " aa, bb"), error)
            whole = complete(wishes, text)
            self.assertTrue(whole.startswith(text))
            self.assertIn(tuple(words(whole)), texts)
            self.assertEqual(tuple(words(whole))[: len(marks)], marks)

    def test_a_long_ring(self):
        wishes = ring_wishes(60)
        text = " ".join(wishes.names)
        self.assertEqual(read_parting(wishes, text), tuple(range(1, 60)) + (0,))
        self.assertEqual(raised(read_parting, wishes, text + ","), ("InvalidText", 0, len(text)))
        chain = wishes_of(*[[(at - 1) % 60, (at + 1) % 60] for at in range(60)])
        self.assertEqual(words(completed_parting(chain, "aa ab ac")), list(chain.names))
        self.assertEqual(raised(read_pairing, chain, text), ("InvalidText", 0, 6))

    def test_random_wishes(self):
        chance = random.Random(17)
        for _ in range(30):
            wishes = random_wishes(chance, 30, 0.1)
            text = ""
            while True:
                marks = [mark for mark in wishes.names + (",",) if raised(completed_parting, wishes, text + " " + mark) is None]
                if not marks:
                    break
                text += " " + chance.choice(marks)
                read_parting(wishes, completed_parting(wishes, text))
            read_parting(wishes, text)


def ways_to_tell(wishes, ring):
    names = tuple(wishes.names[person] for person in ring)
    return [names[at:] + names[:at] for at in range(len(names))]


def rings_of(parting):
    rings = []
    for person in range(len(parting)):
        ring = [person]
        while parting[ring[-1]] != person:
            ring.append(parting[ring[-1]])
        if min(ring) == person:
            rings.append(tuple(ring))
    return rings


if __name__ == "__main__":
    unittest.main()
