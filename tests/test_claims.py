"""Point 84, what it says of the judge, and point 85: statements."""

import random
import unittest

from lastpairs.askpapers import barring_asks, is_barring_asks
from lastpairs.claims import is_so, not_so, run_fault
from lastpairs.commands import read_commands
from lastpairs.disk import Disk
from lastpairs.lodgings import Lodging
from lastpairs.nearlypapers import AwayPaper, CalmPaper, away_paper, calm_paper, is_away_paper, is_calm_paper
from lastpairs.partings import parting_of
from lastpairs.plain import is_lasting
from lastpairs.proposals import asked_out
from lastpairs.reader import read_wishes
from lastpairs.runs import lodging_of_run, run_commands, run_with_papers
from lastpairs.statuses import (
    PairingPaper, RingPaper, StatusPaper, is_pairing_paper, is_ring_paper, is_status_paper, status_paper, wishes_paper,
)
from lastpairs.turningout import turning_row
from tests import naive
from tests.helpers import Hostile, Posing, is_plain, many_wishes, ring_wishes, round_rings, side_by_side, sixties, squares, wishes_of, wrong_forms, zoo
from tests.test_runs import FOUR, KITE, RING, some_command

ODD = wishes_of((1, 2, 3), (2, 0, 3), (0, 1, 3), (0, 1, 2))
SQUARE = squares(1)
ONE, TWO = ((0, 1), (2, 3)), ((0, 3), (1, 2))
NAMES = FOUR.wishes.names
FIRST, SECOND = (("ann", "bob"), ("cid", "dan")), (("ann", "dan"), ("bob", "cid"))


def copied(value):
    """The same value, made of other objects."""
    if isinstance(value, tuple):
        return tuple([copied(part) for part in value])
    if isinstance(value, (PairingPaper, RingPaper, StatusPaper, CalmPaper, AwayPaper)):
        return value.__class__(*[copied(part) for part in vars(value).values()])
    return value


class FaultTest(unittest.TestCase):
    def fault(self, lodging, text, *answers):
        return run_fault(lodging, read_commands(text), answers)

    def test_ordinary(self):
        commands = read_commands("settle\nstatus ann\ncalm\naway\nleft ann bob\ncome dan ann 0\nsettle\nleft ann bob\nlasts\njoin ann bob")
        answers = run_with_papers(RING, commands)
        self.assertIsNone(run_fault(RING, commands, answers))
        self.assertIsNone(run_fault(lodging=RING, commands=commands, answers=copied(answers)))
        self.assertIsNone(run_fault(RING, (), ()))

    def test_too_few_and_too_many(self):
        commands = read_commands("settle\ncalm\nlasts")
        answers = run_with_papers(FOUR, commands)
        self.assertIsNone(run_fault(FOUR, commands, answers))
        for many in range(3):
            self.assertEqual(run_fault(FOUR, commands, answers[:many]), many)
            self.assertEqual(run_fault(FOUR, commands[:many], answers), many)
        self.assertEqual(run_fault(FOUR, (), (None,)), 0)
        self.assertEqual(run_fault(FOUR, commands, answers + (answers[0],) * 5), 3)
        # What is not right comes ahead of what is too much.
        self.assertEqual(run_fault(FOUR, commands, answers[:2] + (None, None)), 2)
        for value in zoo():
            if type(value) is not tuple:
                self.assertEqual(run_fault(FOUR, commands, value), 0)
                self.assertEqual(run_fault(FOUR, (), value), 0)
        self.assertEqual(run_fault(FOUR, commands, list(answers)), 0)

    def test_other_right_papers(self):
        for pairs, pairing in ((FIRST, ONE), (SECOND, TWO)):
            self.assertIsNone(self.fault(FOUR, "settle", (("settled", pairs), PairingPaper(pairing))))
            # The lodging behind it is that of these answers.
            self.assertIsNone(self.fault(FOUR, "settle\nlasts\nsettle", (("settled", pairs), PairingPaper(pairing)), (("lasts",), None),
                                         (("settled", pairs), PairingPaper(pairing))))
        # What was settled lasts: another one is not told then.
        self.assertEqual(self.fault(FOUR, "settle\nsettle", (("settled", FIRST), PairingPaper(ONE)), (("settled", SECOND), PairingPaper(TWO))), 1)
        for ring in ("ann", "bob", "cid"):
            person = RING.wishes.names.index(ring)
            pair = tuple(one for one in range(3) if one != person)
            self.assertIsNone(self.fault(RING, "away", (("away", (ring,)), AwayPaper((person,), (pair,), (1, 2, 0)))))
            self.assertIsNone(self.fault(RING, "calm", (("calm", 1), CalmPaper((pair,), (1, 2, 0)))))
        two = Lodging(round_rings(3, 3), ())
        parting = (1, 2, 0, 4, 5, 3)
        for names, ring in ((("aa", "ab", "ac"), (0, 1, 2)), (("ad", "ae", "af"), (3, 4, 5))):
            self.assertIsNone(self.fault(two, "settle", (("barred", names), RingPaper(parting, ring))))
        for one in ("ann", "bob"), ("bob", "cid"), ("cid", "dan"), ("ann", "dan"):
            fine = one in (("bob", "cid"), ("cid", "dan"))
            self.assertEqual(self.fault(FOUR, "lasts", (("blocked", *one), None)), None if fine else 0)

    def test_wrong_answers(self):
        parting = (1, 2, 3, 0)
        for text, answer in (
            ("settle", (("settled", FIRST), PairingPaper(TWO))), ("settle", (("settled", FIRST), None)), ("settle", (("settled", FIRST), ONE)),
            ("settle", (("settled", FIRST[:1]), PairingPaper(ONE[:1]))), ("settle", (("settled", ONE), PairingPaper(ONE))), ("settle", (("lasts",), None)),
            ("settle", (("settled", list(FIRST)), PairingPaper(ONE))), ("settle", (["settled", FIRST], PairingPaper(ONE))),
            ("settle", (("settled",) + FIRST, PairingPaper(ONE))), ("settle", (("settled", FIRST), PairingPaper(ONE), None)), ("settle", (("settled", FIRST),)),
            ("settle", [("settled", FIRST), PairingPaper(ONE)]), ("settle", (("settled", (("bob", "ann"), ("cid", "dan"))), PairingPaper(ONE))),
            ("settle", (("settled", FIRST[::-1]), PairingPaper(ONE))), ("settle", (("barred", ("ann", "bob", "cid")), RingPaper((1, 2, 0, 3), (0, 1, 2)))),
            ("lasts", (("lasts",), None)), ("lasts", (("blocked", "cid", "bob"), None)), ("lasts", (("blocked", 1, 2), None)), ("lasts", (("blocked", "bob", "cid"), ())),
            ("lasts", (("blocked", "bob", "cid"), PairingPaper(ONE))), ("lasts", (("blocked",), None)), ("status ann", (("status", "odd"), StatusPaper(0, "odd", parting))),
            ("status ann", (("status", "even"), StatusPaper(1, "even", parting))), ("status ann", (("status", "even"), StatusPaper(True, "even", parting))),
            ("status ann", (("status", "even"), StatusPaper(False, "even", parting))), ("status ann", (("status", "even"), None)),
            ("status ann", (("refused",), None)), ("status ann", (("status", "single"), StatusPaper(0, "even", parting))),
            ("status eve", (("status", "even"), StatusPaper(0, "even", parting))), ("status eve", (("refused",), StatusPaper(0, "even", parting))),
            ("calm", (("calm", 1), CalmPaper(ONE, parting))), ("calm", (("calm", 2.0), CalmPaper(ONE, parting))), ("calm", (("calm", "2"), CalmPaper(ONE, parting))),
            ("calm", (("calm", 2), CalmPaper(ONE[:1], parting))), ("calm", (("calm", 2), CalmPaper(ONE, (1, 0, 2, 3)))), ("calm", (("calm", 2), None)),
            ("calm", (("calm", 2), PairingPaper(ONE))), ("away", (("away", ("ann",)), AwayPaper((), ONE, parting))), ("away", (("away",), AwayPaper((), ONE, parting))),
            ("away", (("away", []), AwayPaper((), ONE, parting))), ("away", (("away", ()), CalmPaper(ONE, parting))), ("away", (("away", ()), AwayPaper((), (), parting))),
            ("left ann bob", (("never",), (0,))), ("left ann bob", (("left",), ())), ("left ann bob", (("refused",), None)), ("left ann bob", (("left", "ann", "bob"), None)),
            ("left ann cid", (("never",), None)), ("left ann cid", (("left",), None)), ("left ann eve", (("never",), None)), ("left ann eve", (("refused",), ())),
            ("go ann", (("refused",), None)), ("go ann", (("did",), ())), ("go ann", (("did", "ann"), None)), ("go ann", ("did", None)), ("go ann", (("done",), None)),
            ("go eve", (("did",), None)), ("join ann bob", (("did",), None)), ("join bob cid", (("refused",), None)), ("go ann", None), ("go ann", ("did",)),
        ):
            self.assertEqual(self.fault(FOUR, text, answer), 0, (text, answer))
            right = run_with_papers(FOUR, read_commands(text))
            self.assertIsNone(self.fault(FOUR, text, *right))
            self.assertEqual(self.fault(FOUR, "calm\n" + text, *run_with_papers(FOUR, read_commands("calm")), answer), 1)

    def test_numbers_that_are_bools(self):
        one = Lodging(read_wishes("ann: bob\nbob: ann"), ())
        for many, fine in ((1, True), (True, False), (1.0, False), (False, False)):
            self.assertEqual(self.fault(one, "calm", (("calm", many), CalmPaper(((0, 1),), (1, 0)))), None if fine else 0)
        nobody = Lodging(wishes_of(()), ())
        for many, fine in ((0, True), (False, False), (0.0, False)):
            self.assertEqual(self.fault(nobody, "calm", (("calm", many), CalmPaper((), (0,)))), None if fine else 0)
        for parting in ((1, False), (True, 0)):
            self.assertEqual(self.fault(one, "calm", (("calm", 1), CalmPaper(((0, 1),), parting))), 0)
        for ring in ((False, 1, 2), (0, True, 2)):
            self.assertEqual(self.fault(RING, "settle", (("barred", ("ann", "bob", "cid")), RingPaper((1, 2, 0), ring))), 0)
        never = read_commands("left j h")
        self.assertIsNone(run_fault(KITE, never, run_with_papers(KITE, never)))
        self.assertIsNone(run_fault(KITE, never, ((("never",), (0, 2)),)))
        for asks in ((False, 2), (0, 2.0), [0, 2], (0,), (), None, (0, 0)):
            self.assertEqual(run_fault(KITE, never, ((("never",), asks),)), 0)

    def test_rings_of_the_document(self):
        """As told: from the least person on, and just one of the odd rings."""
        for names, ring in ((("bob", "cid", "ann"), (0, 1, 2)), (("bob", "cid", "ann"), (1, 2, 0)), (("ann", "cid", "bob"), (0, 2, 1)), (("ann", "bob", "cid"), (1, 2, 0))):
            self.assertEqual(self.fault(RING, "settle", (("barred", names), RingPaper((1, 2, 0), ring))), 0)
        self.assertIsNone(self.fault(RING, "settle", (("barred", ("ann", "bob", "cid")), RingPaper((1, 2, 0), (0, 1, 2)))))

    def test_any_values(self):
        commands = read_commands("settle\nlasts\nstatus ann\ncalm\naway\nleft ann bob\ngo ann\njoin ann cid\nleft bob ann\nstatus ann")
        answers = run_with_papers(FOUR, commands)
        self.assertIsNone(run_fault(FOUR, commands, answers))
        for at in range(len(answers)):
            for value in zoo():
                result, paper = answers[at]
                for wrong in (value, (value, paper), (value,), (result, paper, value), (result[:1] + (value,), paper), ((value,) + result[1:], paper)):
                    self.assertEqual(run_fault(FOUR, commands, answers[:at] + (wrong,) + answers[at + 1:]), at)
                fine = value is None and paper is None
                fault = run_fault(FOUR, commands, answers[:at] + ((result, value),) + answers[at + 1:])
                self.assertEqual(fault, None if fine else at)

    def test_wrong_forms(self):
        chance = random.Random(84)
        for lodging, text in ((FOUR, "settle"), (FOUR, "calm"), (FOUR, "away"), (RING, "settle"), (RING, "away"), (FOUR, "lasts"), (FOUR, "status ann"), (KITE, "left j h")):
            commands = read_commands(text)
            (result, paper), = run_with_papers(lodging, commands)
            for value in wrong_forms(result):
                fault = run_fault(lodging, commands, ((value, paper),))
                if fault is None:
                    self.assertEqual(value, result)
            forms = list(wrong_forms(vars(paper) and tuple(vars(paper).values()))) if isinstance(paper, (PairingPaper, CalmPaper, AwayPaper, RingPaper)) else []
            for parts in chance.sample(forms, min(len(forms), 300)):
                if type(parts) is tuple and len(parts) == len(vars(paper)):
                    fault = run_fault(lodging, commands, ((result, paper.__class__(*parts)),))
                    checks = (is_pairing_paper, is_ring_paper, is_calm_paper, is_away_paper)
                    self.assertTrue(fault == 0 or any(check(lodging.wishes, paper.__class__(*parts)) for check in checks))

    def test_runs(self):
        """Right answers are right, and of changed ones the first is named."""
        chance = random.Random(840)
        for wishes in many_wishes(840, 40, 6) + [FOUR.wishes, RING.wishes, KITE.wishes]:
            lodging = start = Lodging(wishes, chance.choice(naive.pairings(wishes)))
            commands = ()
            for _ in range(10):
                command = some_command(lodging, chance)
                commands += (command,)
                lodging = lodging_of_run(lodging, (command,), run_commands(lodging, (command,)))
            answers = run_with_papers(start, commands)
            self.assertIsNone(run_fault(start, commands, answers))
            at = chance.randrange(10)
            result, paper = answers[at]
            for wrong in ((("did",) if result != ("did",) else ("refused",), paper), (result, Hostile()), (result,), None):
                self.assertEqual(run_fault(start, commands, answers[:at] + (wrong,) + answers[at + 1:]), at)
            other = Lodging(wishes_of(()), ())
            self.assertIsNone(run_fault(other, commands, run_with_papers(other, commands)))

    def test_all_right_answers_tell_the_same(self):
        """Whatever was answered before, lasting pairings or not, statuses and numbers are the same."""
        commands = read_commands("settle\ngo dan\nsettle\nstatus ann\ncome dan ann 0 cid 0\nsettle\ncalm\naway")
        told = set()
        for pairs, pairing in ((FIRST, ONE), (SECOND, TWO)):
            answers = ((("settled", pairs), PairingPaper(pairing)),)
            behind = lodging_of_run(FOUR, commands[:1], (answers[0][0],))
            answers += run_with_papers(behind, commands[1:])
            self.assertIsNone(run_fault(FOUR, commands, answers))
            results = [result for result, _ in answers]
            told.add(tuple(result if result[0] not in ("settled", "away") else (result[0], len(result[1])) for result in results))
            self.assertEqual(lodging_of_run(FOUR, commands, results).wishes, lodging_of_run(FOUR, commands, run_commands(FOUR, commands)).wishes)
        self.assertEqual(len(told), 1)

    def test_sixty_persons(self):
        commands = read_commands("settle\nlasts\ncalm\naway\nstatus aa\nleft aa ab\npart aa ab\nsettle\ngo aa\nsettle\ncome zzz ab 0\nsettle\nlasts\naway")
        for wishes in sixties():
            lodging = Lodging(wishes, ())
            answers = run_with_papers(lodging, commands)
            self.assertIsNone(run_fault(lodging, commands, answers))
            self.assertIs(is_so(("run", lodging, commands, answers)), True)
            self.assertEqual(run_fault(lodging, commands, answers[:13]), 13)


def statements():
    """A statement of each word that is so, and one of each word that is not."""
    steady = asked_out(SQUARE)
    row = turning_row(SQUARE, steady)
    settle = read_commands("settle")
    right = (
        ("parting", ODD, (1, 2, 0, 3)), ("steady", SQUARE, steady), ("turning", SQUARE, steady, row), ("pairing", SQUARE, PairingPaper(ONE)),
        ("ring", ODD, wishes_paper(ODD)), ("status", ODD, status_paper(ODD, 3)), ("calm", ODD, calm_paper(ODD)), ("away", ODD, away_paper(ODD)),
        ("pair", FOUR, settle[0], ("settled", FIRST), PairingPaper(ONE)), ("run", FOUR, settle, run_with_papers(FOUR, settle)),
        ("pair", RING, ("go", "ann"), ("did",), None), ("run", RING, (), ()),
    )
    wrong = (
        ("parting", ODD, (1, 0, 3, 2)), ("steady", SQUARE, (None,) * 4), ("turning", SQUARE, steady, ()), ("pairing", SQUARE, PairingPaper(())),
        ("ring", SQUARE, wishes_paper(ODD)), ("status", SQUARE, status_paper(ODD, 3)), ("calm", SQUARE, calm_paper(ODD)), ("away", SQUARE, away_paper(ODD)),
        ("pair", FOUR, settle[0], ("settled", FIRST), PairingPaper(TWO)), ("run", FOUR, settle, ()), ("pair", RING, ("go", "ann"), ("refused",), None), ("run", RING, (), (None,)),
    )
    return right, wrong


class StatementsTest(unittest.TestCase):
    def test_ordinary(self):
        right, wrong = statements()
        for value in right:
            self.assertIs(is_so(value), True, value[0])
            self.assertIs(is_so(value=copied(value)), True, value[0])
        for value in wrong:
            self.assertIs(is_so(value), False, value[0])
        self.assertEqual(not_so(right), ())
        self.assertEqual(not_so(values=wrong), tuple(range(len(wrong))))
        self.assertEqual(not_so(right[:2] + wrong[:1] + right[2:] + wrong[1:2]), (2, len(right) + 1))
        self.assertEqual(not_so(()), ())
        self.assertEqual(not_so(tuple(zoo())), tuple(range(len(zoo()))))

    def test_turning_rows(self):
        steady = asked_out(SQUARE)
        row = turning_row(SQUARE, steady)
        self.assertEqual(len(row), 1)
        # Holds that are not steady have no rows.
        for holds in ((None,) * 4, (3, 0, 1, None), list(steady), None, (3, 0, True, 2), (1, 2, 3, 0)):
            self.assertIs(is_so(("turning", SQUARE, holds, row)), False)
            self.assertIs(is_so(("turning", SQUARE, holds, ())), False)
        self.assertIs(is_so(("turning", SQUARE, (3, 2, 1, 0), ())), True)
        self.assertIs(is_so(("turning", SQUARE, steady, row + row)), False)
        self.assertIs(is_so(("turning", SQUARE, steady, list(row))), False)
        self.assertIs(is_so(("turning", SQUARE, steady)), False)

    def test_lodgings_that_are_none(self):
        settle = read_commands("settle")
        for lodging in (Lodging(SQUARE, ((0, 2),)), Lodging(None, ()), SQUARE, None, Lodging(SQUARE, [(0, 1)]), Posing()):
            self.assertIs(is_so(("pair", lodging, settle[0], ("settled", ()), PairingPaper(()))), False)
            self.assertIs(is_so(("run", lodging, (), ())), False)
        for command in (("settle", 1), "settle", ["settle"], None, ("go", "Ann"), (), ("undo",)):
            self.assertIs(is_so(("pair", FOUR, command, ("refused",), None)), False)
            self.assertIs(is_so(("run", FOUR, (command,), ((("refused",), None),))), False)
        for commands in ([], None, "settle", list(settle), settle[0], {}):
            self.assertIs(is_so(("run", FOUR, commands, ())), False)
            self.assertIs(is_so(("run", FOUR, commands, run_with_papers(FOUR, settle))), False)

    def test_other_lengths_and_words(self):
        right, _ = statements()
        for value in right:
            for other in (value[:-1], value + (None,), value[1:], (value,), list(value), ("Parting",) + value[1:], (value[0].encode(),) + value[1:], value[:1], (value[0] + " ",) + value[1:],
                          ("settled",) + value[1:], ([value[0]],) + value[1:], value + value[-1:]):
                self.assertIs(is_so(other), False)
        words = [value[0] for value in right[:10]]
        for value in right[:10]:
            for word in words:
                if word != value[0]:
                    self.assertIs(is_so((word,) + value[1:]), False, (word, value[0]))

    def test_any_values(self):
        right, _ = statements()
        for value in zoo() + [Disk((0,)), (), ("parting",), ("run", FOUR)]:
            self.assertIs(is_so(value), False)
            for statement in right:
                for at in range(len(statement)):
                    changed = statement[:at] + (value,) + statement[at + 1:]
                    # None is the paper of what was done, the empty tuple that of no commands; and these are so in each lodging.
                    same = value is statement[at] or (is_plain(value) and value == statement[at])
                    if not same and not (at == 1 and statement[0] == "run" and isinstance(value, Lodging)):
                        self.assertIs(is_so(changed), False, (statement[0], at))
        for statement in right:
            for at in range(1, len(statement)):
                if type(statement[at]) is tuple and statement[0] in ("parting", "steady", "turning"):
                    for value in wrong_forms(statement[at]):
                        changed = statement[:at] + (value,) + statement[at + 1:]
                        self.assertIn(is_so(changed), (False, True))

    def test_against_the_words(self):
        chance = random.Random(85)
        so = {}
        for wishes in many_wishes(85, 60, 5) + [SQUARE, ODD, round_rings(3, 1)]:
            partings, lasting = naive.lasting_partings(wishes), naive.lasting(wishes)
            for parting in chance.sample(naive.partings(wishes), min(12, len(naive.partings(wishes)))) + list(partings[:2]):
                self.check(so, ("parting", wishes, parting), parting in partings)
                person = chance.choice(list(naive.persons(wishes)))
                for status in ("single", "odd", "even"):
                    paper = StatusPaper(person, status, parting)
                    self.check(so, ("status", wishes, paper), is_status_paper(wishes, paper))
                for ring in naive.rings(parting):
                    self.check(so, ("ring", wishes, RingPaper(parting, ring)), parting in partings and len(ring) > 1 and len(ring) % 2 == 1)
                pairing = chance.choice(naive.pairings(wishes))
                for paper in (CalmPaper(pairing, parting), calm_paper(wishes)):
                    self.check(so, ("calm", wishes, paper), is_calm_paper(wishes, paper))
                for paper in (AwayPaper((person,), pairing, parting), away_paper(wishes)):
                    self.check(so, ("away", wishes, paper), is_away_paper(wishes, paper))
            for pairing in naive.pairings(wishes)[:20]:
                self.check(so, ("pairing", wishes, PairingPaper(pairing)), pairing in lasting)
            for holds in chance.sample(list(naive.all_holds(wishes)), 1) + [asked_out(wishes)]:
                self.check(so, ("steady", wishes, holds), naive.is_steady(wishes, holds))
                self.check(so, ("turning", wishes, holds, turning_row(wishes, asked_out(wishes))), holds == asked_out(wishes))
        for word in ("parting", "status", "ring", "calm", "away", "pairing", "steady", "turning"):
            self.assertGreater(min(so[(word, True)], so[(word, False)]), 10, word)

    def check(self, so, statement, fine):
        if statement[0] == "turning" and not fine:
            # Other steady holds can have the same row only if it is empty.
            fine = naive.is_steady(statement[1], statement[2]) and statement[3] == ()
        self.assertIs(is_so(statement), fine, statement[0])
        so[(statement[0], fine)] = so.get((statement[0], fine), 0) + 1

    def test_sixty_persons(self):
        for wishes in sixties() + [side_by_side(ring_wishes(30), round_rings(3, 27))]:
            steady = asked_out(wishes)
            paper = wishes_paper(wishes)
            self.assertEqual(not_so((
                ("parting", wishes, parting_of(wishes)), ("steady", wishes, steady), ("turning", wishes, steady, turning_row(wishes, steady)),
                ("status", wishes, status_paper(wishes, 59)), ("calm", wishes, calm_paper(wishes)), ("away", wishes, away_paper(wishes)),
                ("pairing", wishes, paper), ("ring", wishes, paper),
            )), (7,) if isinstance(paper, PairingPaper) else (6,))


class BarringTest(unittest.TestCase):
    def test_rows_that_go_on(self):
        """Behind the ask that bars two persons a row of asks may go on."""
        commands = read_commands("left j h")
        row = barring_asks(KITE.wishes, 4, 3)
        self.assertTrue(is_barring_asks(KITE.wishes, 4, 3, (0, 2, 1)))
        for asks in (row, (0, 2), (0, 2, 1), (0, 2, 1, 3)):
            fine = is_barring_asks(KITE.wishes, 4, 3, asks)
            self.assertEqual(run_fault(KITE, commands, ((("never",), asks),)), None if fine else 0)
        self.assertFalse(is_lasting(KITE.wishes, KITE.pairing))


if __name__ == "__main__":
    unittest.main()
