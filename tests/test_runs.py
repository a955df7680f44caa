"""Points 82 and 83, and what point 84 says of papers: runs."""

import random
import unittest

from lastpairs.askpapers import is_barring_asks
from lastpairs.commands import read_commands, show_commands
from lastpairs.lodgings import Lodging, is_lodging, lodging_after
from lastpairs.nearlypapers import AwayPaper, CalmPaper, is_away_paper, is_calm_paper
from lastpairs.reader import read_wishes
from lastpairs.runs import lodging_of_run, run_commands, run_script, run_with_papers, show_result
from lastpairs.statuses import PairingPaper, RingPaper, StatusPaper, is_pairing_paper, is_ring_paper, is_status_paper
from lastpairs.wishes import Wishes
from tests import naive
from tests.helpers import many_wishes, raised, ring_wishes, round_rings, side_by_side, sixties, squares, wishes_of
from tests.test_lodgings import is_deed_by_words

RING = Lodging(read_wishes("ann: bob cid\nbob: cid ann\ncid: ann bob"), ())
FOUR = Lodging(read_wishes("ann: bob dan\nbob: cid ann\ncid: dan bob\ndan: ann cid"), ((0, 1),))
KITE = Lodging(Wishes(("b", "d", "f", "h", "j"), ((1, 3), (2, 0), (3, 1), (0, 2, 4), (3,))), ())


def number(wishes, name):
    return wishes.names.index(name) if name in wishes.names else None


def deed_by_words(wishes, command):
    """The deed that a command is for, or None if nobody has one of the names."""
    word = command[0]
    if word == "come":
        deed = word, command[1], tuple((number(wishes, name), at) for name, at in command[2])
        return None if None in [person for person, _ in deed[2]] else deed
    if word == "list":
        deed = word, number(wishes, command[1]), tuple(number(wishes, name) for name in command[2])
        return None if deed[1] is None or None in deed[2] else deed
    if word == "go":
        return None if number(wishes, command[1]) is None else (word, number(wishes, command[1]))
    one, other = number(wishes, command[1]), number(wishes, command[2])
    if one is None or other is None:
        return None
    if word == "meet":
        places = {one: command[3], other: command[4]}
        return (word, min(one, other), max(one, other), places[min(one, other)], places[max(one, other)])
    return word, min(one, other), max(one, other)


def check_result(test, lodging, command, result):
    """Checks a result in a lodging by the document's words, and returns the lodging behind it."""
    wishes, word = lodging.wishes, command[0]
    names = wishes.names
    if word in ("come", "go", "list", "part", "join", "meet"):
        deed = deed_by_words(wishes, command)
        fine = deed is not None and is_deed_by_words(lodging, deed)
        test.assertEqual(result, ("did",) if fine else ("refused",))
        return lodging_after(lodging, deed) if fine else lodging
    lasting, partings = naive.lasting(wishes), naive.lasting_partings(wishes)
    if word == "settle":
        if not lasting:
            test.assertIn(result, [("barred", tuple(names[person] for person in ring)) for ring in naive.odd_rings(partings[0])])
            return lodging
        some = [lodging.pairing] if lodging.pairing in lasting else lasting
        told = {("settled", tuple((names[one], names[other]) for one, other in pairing)): pairing for pairing in some}
        test.assertIn(result, told)
        return Lodging(wishes, told[result])
    if word == "lasts":
        blocks = naive.blocks(wishes, lodging.pairing)
        test.assertIn(result, [("blocked", names[one], names[other]) for one, other in blocks] or [("lasts",)])
    elif word == "status":
        person = number(wishes, command[1])
        if person is None:
            test.assertEqual(result, ("refused",))
        else:
            odd = any(person in ring for ring in naive.odd_rings(partings[0]))
            test.assertEqual(result, ("status", "single" if partings[0][person] == person else "odd" if odd else "even"))
    elif word == "calm":
        most = max(len(pairing) for pairing in naive.pairings(wishes) if not naive.calm_blocks(wishes, pairing))
        test.assertEqual(result, ("calm", most))
    elif word == "away":
        test.assertIn(result, [("away", tuple(names[person] for person in lot)) for lot in least_lots(wishes)])
    else:
        one, other = number(wishes, command[1]), number(wishes, command[2])
        if one is None or other is None or other not in wishes.lists[one]:
            test.assertEqual(result, ("refused",))
        else:
            left = naive.is_left(wishes, naive.greatest(wishes), one, other)
            test.assertEqual(result, ("left",) if left else ("never",))
    return lodging


def least_lots(wishes):
    """The least lots of persons of whom no pair is left that blocks some pairing of the others."""
    fine = []
    for lot in naive.lots(naive.persons(wishes)):
        for pairing in naive.pairings(wishes):
            rest = not any(set(pair) & set(lot) for pair in pairing)
            if rest and all(set(pair) & set(lot) for pair in naive.blocks(wishes, pairing)):
                fine.append(lot)
                break
    least = min(map(len, fine))
    return [lot for lot in fine if len(lot) == least]


def check_paper(test, lodging, command, result, paper):
    """Checks that a paper is a right one of the kind that the document tells, and shows the result."""
    wishes, word = lodging.wishes, result[0]
    names = wishes.names
    if word == "settled":
        test.assertIsInstance(paper, PairingPaper)
        test.assertIs(is_pairing_paper(wishes, paper), True)
        test.assertEqual(result[1], tuple((names[one], names[other]) for one, other in paper.pairing))
    elif word == "barred":
        test.assertIsInstance(paper, RingPaper)
        test.assertIs(is_ring_paper(wishes, paper), True)
        test.assertEqual(result[1], tuple(names[person] for person in paper.ring))
    elif word == "status":
        test.assertIsInstance(paper, StatusPaper)
        test.assertIs(is_status_paper(wishes, paper), True)
        test.assertEqual((paper.person, paper.status), (names.index(command[1]), result[1]))
    elif word == "calm":
        test.assertIsInstance(paper, CalmPaper)
        test.assertIs(is_calm_paper(wishes, paper), True)
        test.assertEqual(len(paper.pairing), result[1])
    elif word == "away":
        test.assertIsInstance(paper, AwayPaper)
        test.assertIs(is_away_paper(wishes, paper), True)
        test.assertEqual(tuple(names[person] for person in paper.persons), result[1])
    elif word == "never":
        test.assertIs(is_barring_asks(wishes, names.index(command[1]), names.index(command[2]), paper), True)
    else:
        test.assertIsNone(paper)


def some_command(lodging, chance):
    names = list(lodging.wishes.names)
    one, other = chance.choice(names + ["who"]), chance.choice(names + ["who"])
    word = chance.choice(("come", "come", "go", "list", "part", "join", "join", "meet", "meet", "settle", "lasts", "status", "calm", "away", "left", "left"))
    if word == "come":
        places = [(name, chance.choice((0, 0, 1, 2))) for name in names if chance.random() < 0.6]
        chance.shuffle(places)
        if chance.random() < 0.15:
            places.append((chance.choice(names + ["who"]), 0))
        return word, chance.choice(("a", "k", "zz", "mmm", "x", names[0])), tuple(places)
    if word in ("go", "status"):
        return word, one
    if word == "list":
        some = [lodging.wishes.names[person] for person in lodging.wishes.lists[lodging.wishes.names.index(one)]] if one != "who" else ["a"]
        chance.shuffle(some)
        return word, one, tuple(some) + (("who",) if chance.random() < 0.1 else ())
    if word in ("part", "join", "left"):
        pairs = naive.blocks(lodging.wishes, lodging.pairing) if word == "join" else naive.pairs(lodging.wishes)
        if pairs and chance.random() < 0.7:
            pair = [lodging.wishes.names[person] for person in chance.choice(pairs)]
            chance.shuffle(pair)
            return (word, *pair)
        return word, one, other
    if word == "meet":
        return word, one, other, chance.choice((0, 0, 1, 2)), chance.choice((0, 0, 1, 2))
    return (word,)


class RunTest(unittest.TestCase):
    def run_one(self, lodging, *command):
        self.assertEqual(len(run_commands(lodging, (command,))), 1)
        return run_commands(lodging, (command,))[0], lodging_of_run(lodging, (command,), run_commands(lodging, (command,)))

    def test_ordinary(self):
        commands = read_commands("settle\ncalm\ncome dan ann 0\nsettle\nleft ann bob\njoin ann bob")
        results = (
            ("barred", ("ann", "bob", "cid")), ("calm", 1), ("did",), ("settled", (("ann", "dan"), ("bob", "cid"))), ("never",), ("refused",),
        )
        self.assertEqual(run_commands(RING, commands), results)
        self.assertEqual(run_commands(lodging=RING, commands=commands), results)
        self.assertEqual(run_commands(RING, ()), ())
        after = lodging_of_run(lodging=RING, commands=commands, results=results)
        self.assertEqual(after.pairing, ((0, 3), (1, 2)))
        self.assertEqual(lodging_of_run(RING, (), ()), RING)
        lines = run_script(lodging=RING, text=show_commands(commands))
        self.assertEqual(lines, ("barred ann bob cid", "calm 1", "did", "settled ann dan, bob cid", "never", "refused"))

    def test_deeds(self):
        for command, deed in (
            (("come", "c", (("h", 0), ("b", 2))), ("come", "c", ((3, 0), (0, 2)))), (("go", "j"), ("go", 4)), (("go", "b"), ("go", 0)),
            (("list", "h", ("j", "b", "f")), ("list", 3, (4, 0, 2))), (("part", "h", "b"), ("part", 0, 3)), (("part", "b", "h"), ("part", 0, 3)),
            (("join", "d", "b"), ("join", 0, 1)), (("join", "b", "d"), ("join", 0, 1)), (("meet", "b", "f", 2, 1), ("meet", 0, 2, 2, 1)),
            (("meet", "f", "b", 1, 2), ("meet", 0, 2, 2, 1)), (("meet", "j", "b", 0, 2), ("meet", 0, 4, 2, 0)), (("come", "zz", ()), ("come", "zz", ())),
        ):
            result, after = self.run_one(KITE, *command)
            self.assertEqual((result, after), (("did",), lodging_after(KITE, deed)), command)

    def test_refused_deeds(self):
        for command in (
            ("come", "b", ()), ("come", "c", (("x", 0),)), ("come", "c", (("c", 0),)), ("come", "c", (("b", 3),)), ("come", "c", (("b", 0), ("b", 1))),
            ("go", "x"), ("list", "x", ()), ("list", "b", ("d",)), ("list", "b", ("d", "x")), ("list", "b", ("d", "d")), ("part", "b", "f"), ("part", "b", "b"),
            ("part", "b", "x"), ("part", "x", "b"), ("join", "b", "f"), ("join", "x", "y"), ("join", "b", "b"), ("meet", "b", "d", 0, 0),
            ("meet", "b", "b", 0, 0), ("meet", "x", "b", 0, 0), ("meet", "b", "f", 3, 0), ("meet", "b", "f", 0, 3), ("meet", "j", "b", 2, 0),
        ):
            self.assertEqual(self.run_one(KITE, *command), (("refused",), KITE), command)
        one = Lodging(wishes_of(()), ())
        self.assertEqual(self.run_one(one, "go", "aa"), (("refused",), one))

    def test_the_sixtieth_person_and_one_more(self):
        lodging = Lodging(wishes_of(*[()] * 59), ())
        commands = (("come", "zzz", (("aa", 0),)), ("come", "zzzz", ()), ("settle",), ("go", "aa"), ("come", "zzzz", (("zzz", 0),)), ("settle",))
        results = run_commands(lodging, commands)
        self.assertEqual(results, (("did",), ("refused",), ("settled", (("aa", "zzz"),)), ("did",), ("did",), ("settled", (("zzz", "zzzz"),))))
        self.assertEqual(len(lodging_of_run(lodging, commands, results).wishes.names), 60)

    def test_settling(self):
        # What lasts stays in force, whichever it is.
        for pairing in (((0, 1), (2, 3)), ((0, 3), (1, 2))):
            lodging = Lodging(FOUR.wishes, pairing)
            names = tuple((FOUR.wishes.names[one], FOUR.wishes.names[other]) for one, other in pairing)
            self.assertEqual(self.run_one(lodging, "settle"), (("settled", names), lodging))
            self.assertEqual(self.run_one(lodging, "lasts"), (("lasts",), lodging))
        self.assertEqual(self.run_one(RING, "settle"), (("barred", ("ann", "bob", "cid")), RING))
        nobody = Lodging(wishes_of((), ()), ())
        self.assertEqual(self.run_one(nobody, "settle"), (("settled", ()), nobody))

    def test_asking(self):
        self.assertIn(self.run_one(FOUR, "lasts")[0], (("blocked", "bob", "cid"), ("blocked", "cid", "dan")))
        self.assertEqual(self.run_one(FOUR, "status", "ann"), (("status", "even"), FOUR))
        self.assertEqual(self.run_one(FOUR, "status", "eve"), (("refused",), FOUR))
        self.assertEqual(self.run_one(RING, "status", "cid"), (("status", "odd"), RING))
        self.assertEqual(self.run_one(KITE, "status", "j"), (("status", "single"), KITE))
        self.assertEqual(self.run_one(FOUR, "calm"), (("calm", 2), FOUR))
        self.assertEqual(self.run_one(FOUR, "away"), (("away", ()), FOUR))
        self.assertIn(self.run_one(RING, "away")[0], [("away", (name,)) for name in RING.wishes.names])
        self.assertEqual(self.run_one(KITE, "left", "b", "d"), (("left",), KITE))
        self.assertEqual(self.run_one(KITE, "left", "j", "h"), (("never",), KITE))
        for pair in (("b", "f"), ("b", "b"), ("b", "x"), ("x", "b"), ("x", "x")):
            self.assertEqual(self.run_one(KITE, "left", *pair), (("refused",), KITE))

    def test_against_the_words(self):
        chance = random.Random(82)
        words = {}
        for wishes in many_wishes(82, 60, 6) + [FOUR.wishes, RING.wishes, KITE.wishes, round_rings(3, 3)]:
            start = lodging = Lodging(wishes, chance.choice(naive.pairings(wishes)))
            commands, results = [], []
            for _ in range(14):
                commands.append(some_command(lodging, chance))
                if len(lodging.wishes.names) > 6 and commands[-1][0] == "come":
                    commands[-1] = ("go", lodging.wishes.names[0])
                (result, paper), = run_with_papers(lodging, commands[-1:])
                before, lodging = lodging, check_result(self, lodging, commands[-1], result)
                check_paper(self, before if result[0] != "settled" else lodging, commands[-1], result, paper)
                results.append(result)
                words.setdefault((commands[-1][0], result[0]), 0)
                words[(commands[-1][0], result[0])] += 1
                self.assertIs(is_lodging(lodging), True)
            # All at once they are the same.
            self.assertEqual(run_commands(start, tuple(commands)), tuple(results))
            self.assertEqual(lodging_of_run(start, tuple(commands), tuple(results)), lodging)
            self.assertEqual(run_script(start, show_commands(tuple(commands))), tuple(show_result(result) for result in results))
        for word in ("come", "go", "list", "part", "join", "meet"):
            self.assertGreater(min(words[(word, "did")], words[(word, "refused")]), 2, word)
        for key in (("settle", "settled"), ("settle", "barred"), ("lasts", "lasts"), ("lasts", "blocked"), ("left", "left"), ("left", "never")):
            self.assertGreater(words[key], 5, key)

    def test_other_results(self):
        """A lodging behind results that somebody else has told: another lasting pairing is in force."""
        commands = (("settle",), ("go", "ann"), ("calm",))
        for pairs, pairing in (((("ann", "bob"), ("cid", "dan")), ((1, 2),)), ((("ann", "dan"), ("bob", "cid")), ((0, 1),))):
            after = lodging_of_run(FOUR, commands, (("settled", pairs), ("did",), ("calm", 1)))
            self.assertEqual(after, Lodging(read_wishes("bob: cid\ncid: dan bob\ndan: cid"), pairing))
        self.assertEqual(lodging_of_run(FOUR, commands, (("refused",),) * 3), FOUR)

    def test_sixty_persons(self):
        commands = read_commands("settle\nlasts\ncalm\naway\nstatus aa\nleft aa ab\npart aa ab\nsettle\ngo aa\nsettle\ncome zzz ab 0\nsettle\nlasts\naway")
        for wishes in sixties():
            lodging = Lodging(wishes, ())
            answers = run_with_papers(lodging, commands)
            self.assertEqual(len(answers), len(commands))
            self.assertEqual(run_commands(lodging, commands), tuple(result for result, _ in answers))
            for command, (result, paper) in zip(commands, answers):
                check_paper(self, lodging, command, result, paper)
                lodging = lodging_of_run(lodging, (command,), (result,))


class LinesTest(unittest.TestCase):
    def test_results(self):
        for result, line in (
            (("did",), "did"), (("refused",), "refused"), (("settled", ()), "settled"), (("settled", (("ann", "bob"),)), "settled ann bob"),
            (("settled", (("ann", "dan"), ("bob", "cid"), ("eve", "flo"))), "settled ann dan, bob cid, eve flo"),
            (("barred", ("ann", "bob", "cid")), "barred ann bob cid"), (("lasts",), "lasts"), (("blocked", "ann", "bob"), "blocked ann bob"),
            (("status", "odd"), "status odd"), (("calm", 0), "calm 0"), (("calm", 30), "calm 30"), (("away", ()), "away"), (("away", ("ann",)), "away ann"),
            (("away", ("ann", "bob")), "away ann bob"), (("left",), "left"), (("never",), "never"),
        ):
            self.assertEqual(show_result(result), line)
            self.assertEqual(show_result(result=result), line)

    def test_scripts(self):
        for text, lines in (("", ()), ("\n  \n", ()), ("calm", ("calm 1",)), ("  calm  \n\n   status   ann  ", ("calm 1", "status odd")),
                            ("go ann\n go bob \ngo cid\nsettle", ("did", "did", "refused", "settled"))):
            self.assertEqual(run_script(RING, text), lines)

    def test_texts_that_are_none(self):
        for text, error in (("calm\ncal", (1, 0)), ("calm 1", (0, 0)), ("\n\ngo", (2, 0)), (None, (-1, -1)), (b"calm", (-1, -1)), (["calm"], (-1, -1)), ("go Ann", (0, 0)),
                            ("calm\r", (0, 0)), ("left ann bob\n meet ann bob 0 61", (1, 0))):
            self.assertEqual(raised(run_script, RING, text), ("InvalidText",) + error)


class PapersTest(unittest.TestCase):
    def test_ordinary(self):
        commands = read_commands("settle\nstatus ann\ncalm\naway\nleft ann bob\ncome dan ann 0\nsettle\nleft ann bob\nlasts\njoin ann bob\nstatus eve")
        answers = run_with_papers(lodging=RING, commands=commands)
        kinds = [RingPaper, StatusPaper, CalmPaper, AwayPaper, type(None), type(None), PairingPaper, tuple, type(None), type(None), type(None)]
        self.assertEqual([type(paper) for _, paper in answers], kinds)
        self.assertTrue(all(type(answer) is tuple and len(answer) == 2 for answer in answers))
        self.assertEqual(run_with_papers(RING, ()), ())
        lodging = RING
        for command, (result, paper) in zip(commands, answers):
            check_paper(self, lodging, command, result, paper)
            lodging = lodging_of_run(lodging, (command,), (result,))

    def test_wishes_stay(self):
        both = Lodging(side_by_side(squares(1), ring_wishes(6)), ())
        for word in ("settle", "lasts", "calm", "away"):
            after = lodging_of_run(both, ((word,),), run_commands(both, ((word,),)))
            self.assertIs(after.wishes, both.wishes)


if __name__ == "__main__":
    unittest.main()
