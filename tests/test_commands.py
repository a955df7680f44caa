"""Points 80 and 81: commands and their texts."""

import random
import unittest

from lastpairs.commands import is_command, read_commands, show_command, show_commands
from tests import naive
from tests.helpers import raised, wrong_forms, zoo

COMMANDS = (
    ("come", "dan", (("ann", 0), ("bob", 60), ("ann", 3))), ("come", "come", ()), ("go", "ann"), ("go", "abcdef"),
    ("list", "ann", ("bob", "cid", "bob", "ann")), ("list", "ann", ()), ("part", "ann", "bob"), ("part", "bob", "bob"),
    ("join", "zed", "ann"), ("meet", "zed", "ann", 0, 60), ("settle",), ("lasts",), ("status", "away"), ("calm",),
    ("away",), ("left", "ann", "bob"),
)
LINES = (
    "come dan ann 0 bob 60 ann 3", "come come", "go ann", "go abcdef", "list ann bob cid bob ann", "list ann",
    "part ann bob", "part bob bob", "join zed ann", "meet zed ann 0 60", "settle", "lasts", "status away", "calm",
    "away", "left ann bob",
)


def is_place(value):
    return naive.is_number(value) and value <= 60


def is_command_by_words(value):
    if type(value) is not tuple or not value or type(value[0]) is not str:
        return False
    word, rest = value[0], value[1:]
    if word in ("settle", "lasts", "calm", "away"):
        return rest == ()
    if word in ("go", "status"):
        return len(rest) == 1 and naive.is_name(rest[0])
    if word in ("part", "join", "left"):
        return len(rest) == 2 and all(map(naive.is_name, rest))
    if word == "meet":
        return len(rest) == 4 and all(map(naive.is_name, rest[:2])) and all(map(is_place, rest[2:]))
    if word not in ("come", "list") or len(rest) != 2 or not naive.is_name(rest[0]) or type(rest[1]) is not tuple:
        return False
    if word == "list":
        return all(map(naive.is_name, rest[1]))
    return all(type(at) is tuple and len(at) == 2 and naive.is_name(at[0]) and is_place(at[1]) for at in rest[1])


class CommandTest(unittest.TestCase):
    def test_commands(self):
        for command in COMMANDS:
            self.assertIs(is_command(command), True, command)

    def test_edges(self):
        for value in (("go", "abcdefg"), ("go", ""), ("go", "A"), ("go",), ("go", "a", "b"), ("settle", "a"), ("settle", ()),
                      ("lasts", None), ("come", "a"), ("come", "a", "b"), ("come", "a", ("b", 0)), ("come", "a", (("b", 61),)),
                      ("come", "a", (("b", True),)), ("come", "a", (("b", -1),)), ("come", "a", [("b", 0)]),
                      ("come", "a", (["b", 0],)), ("come", "a", (("b", 0, 0),)), ("come", "a", ((0, "b"),)),
                      ("meet", "a", "b", 0), ("meet", "a", "b", 0, False), ("meet", "a", "b", 61, 0), ("meet", "a", "b", 0, 61),
                      ("meet", 0, "b", 0, 0), ("list", "a", "bc"), ("list", "a", ["b"]), ("list", "a", ("b", 1)), ("list", "a"),
                      ("part", "a"), ("part", "a", "b", "c"), ("join", "a", None), ("left", "a", 1), ("status",), ("stay", "a"),
                      ("Settle",), ("",), (), ["settle"], "settle", (("settle",),), (b"settle",), ("undo",), ("pack",)):
            self.assertIs(is_command(value), False, value)

    def test_any_values(self):
        for value in zoo():
            self.assertIs(is_command(value), type(value) is tuple and len(value) == 1 and value[0].__class__ is str
                          and value[0] == "settle")
        for command in COMMANDS:
            for value in wrong_forms(command):
                self.assertIs(is_command(value), is_command_by_words(value))


class TextTest(unittest.TestCase):
    def test_lines(self):
        for command, line in zip(COMMANDS, LINES):
            self.assertEqual(show_command(command), line)
            self.assertEqual(read_commands(line), (command,))
        self.assertEqual(show_commands(COMMANDS), "\n".join(LINES))
        self.assertEqual(read_commands(text=show_commands(commands=COMMANDS)), COMMANDS)
        self.assertEqual(show_command(command=("calm",)), "calm")

    def test_nothing(self):
        for text in ("", " ", "\n", "\n\n  \n", "   "):
            self.assertEqual(read_commands(text), ())
        self.assertEqual(show_commands(()), "")

    def test_blanks(self):
        text = "\n   go   ann  \n\n settle\n  \ncome dan   ann  0 \n"
        self.assertEqual(read_commands(text), (("go", "ann"), ("settle",), ("come", "dan", (("ann", 0),))))

    def test_numerals(self):
        for numeral in range(61):
            self.assertEqual(read_commands(f"meet a b {numeral} 0"), (("meet", "a", "b", numeral, 0),))
            self.assertEqual(read_commands(f"come a b {numeral}"), (("come", "a", (("b", numeral),)),))
        for numeral in ("61", "00", "01", "007", "060", "100", "+1", "-1", "-0", "1.0", "1_0", "a", "9" * 9000, "\xb2", "1a"):
            for text in (f"meet a b {numeral} 0", f"meet a b 0 {numeral}", f"come a b {numeral}"):
                self.assertEqual(raised(read_commands, text), ("InvalidText", 0, 0), numeral)

    def test_no_commands(self):
        for line in ("stay", "go", "go ann bob", "go Ann", "go abcdefg", "settle now", "come", "come a b", "come a 0", "come a b 0 c",
                     "come a b c 0", "list", "list a 0", "part a", "part a b c", "meet a b", "meet a b 0", "meet a b 0 0 0",
                     "meet 0 0 a b", "status", "calm down", "left a", "go\tann", "go ann\t", "go, ann", "goann", "Go ann", ",", "go a1"):
            self.assertEqual(raised(read_commands, line), ("InvalidText", 0, 0), line)
            self.assertEqual(raised(read_commands, "go ann\n\n  " + line + "\n" + line), ("InvalidText", 2, 0), line)

    def test_no_string(self):
        for value in zoo():
            if type(value) is str:
                self.assertEqual(raised(read_commands, value), ("InvalidText", 0, 0) if value.strip() else None)
            else:
                self.assertEqual(raised(read_commands, value), ("InvalidText", -1, -1))
        for value in (b"settle", ["settle"], ("settle",), 0, None):
            self.assertEqual(raised(read_commands, value), ("InvalidText", -1, -1))

    def test_read_again(self):
        chance = random.Random(81)
        for _ in range(200):
            some = tuple(chance.choice(COMMANDS) for _ in range(chance.randint(0, 8)))
            self.assertEqual(read_commands(show_commands(some)), some)
            words = "come go list meet settle ann bob dan 0 1 60 61".split()
            line = " ".join(chance.choice(words) for _ in range(chance.randint(1, 6)))
            try:
                told = read_commands(line)
            except ValueError:
                continue
            self.assertEqual(len(told), 1)
            self.assertTrue(is_command_by_words(told[0]))
            self.assertEqual(show_commands(told), line)


if __name__ == "__main__":
    unittest.main()
