"""Claims: the answers of a run are judged, and statements are so or not."""

from lastpairs.askpapers import is_barring_asks
from lastpairs.commands import is_command
from lastpairs.judge import is_parting
from lastpairs.kinds import is_same, is_tuple_of
from lastpairs.left import is_steady
from lastpairs.lodgings import is_lodging
from lastpairs.nearlypapers import is_away_paper, is_calm_paper
from lastpairs.plain import is_lasting
from lastpairs.runs import (
    DEEDS, lodging_behind, names_of, names_of_pairs, numbers_of, result_of_deed, result_of_left, results_of_lasts,
)
from lastpairs.statuses import is_pairing_paper, is_ring_paper, is_status_paper
from lastpairs.turningout import is_turning_row
from lastpairs.wishes import Wishes


def run_fault(lodging, commands, answers):
    """The number of the first answer that is not right, lacks, or is too much, or None."""
    if not isinstance(answers, tuple):
        return 0
    for at, command in enumerate(commands):
        if at == len(answers) or not _is_right(lodging, command, answers[at]):
            return at
        lodging = lodging_behind(lodging, command, answers[at][0])
    return len(commands) if len(answers) > len(commands) else None


def _is_right(lodging, command, value):
    """Whether a value is a result that a command can have in a lodging, and a right paper that shows it."""
    if not is_tuple_of(value, 2):
        return False
    return any([is_same(value[0], result) for result in _results_shown(lodging, command, value[1])])


def _results_shown(lodging, command, paper):
    """All results that a command can have if a value is the paper."""
    if command[0] == "settle":
        return _settling_shown(lodging, paper)
    if command[0] == "status":
        return _status_shown(lodging, command, paper)
    if command[0] == "calm":
        return [("calm", len(paper.pairing))] if is_calm_paper(lodging.wishes, paper) else []
    if command[0] == "away":
        return [("away", names_of(lodging, paper.persons))] if is_away_paper(lodging.wishes, paper) else []
    if command[0] == "left":
        return _left_shown(lodging, command, paper)
    if paper is not None:
        return []
    return [result_of_deed(lodging, command)] if command[0] in DEEDS else results_of_lasts(lodging)


def _settling_shown(lodging, paper):
    if is_ring_paper(lodging.wishes, paper):
        return [("barred", names_of(lodging, paper.ring))]
    if not is_pairing_paper(lodging.wishes, paper):
        return []
    # What lasts stays in force.
    if is_lasting(lodging.wishes, lodging.pairing) and paper.pairing != lodging.pairing:
        return []
    return [("settled", names_of_pairs(lodging, paper.pairing))]


def _status_shown(lodging, command, paper):
    person = numbers_of(lodging, command[1:])[0]
    if person is None:
        return [("refused",)] if paper is None else []
    if not is_status_paper(lodging.wishes, paper) or paper.person != person:
        return []
    return [("status", paper.status)]


def _left_shown(lodging, command, paper):
    result = result_of_left(lodging, command)
    if result != ("never",):
        return [result] if paper is None else []
    one, other = numbers_of(lodging, command[1:])
    return [result] if is_barring_asks(lodging.wishes, one, other, paper) else []


def is_so(value):
    """Whether a value is a statement, and what it says is so."""
    if not isinstance(value, tuple) or not value or not isinstance(value[0], str):
        return False
    if value[0] == "pair":
        return len(value) == 5 and _is_command_in(value[1], value[2]) and _is_right(value[1], value[2], value[3:])
    if value[0] == "run":
        return len(value) == 4 and is_lodging(value[1]) and _is_run(value[1], value[2], value[3])
    if len(value) < 3 or not isinstance(value[1], Wishes):
        return False
    if value[0] == "turning":
        return len(value) == 4 and is_steady(value[1], value[2]) and is_turning_row(value[1], value[2], value[3])
    return len(value) == 3 and _is_so_of_wishes(value[0], value[1], value[2])


def _is_command_in(lodging, command):
    return is_lodging(lodging) and is_command(command)


def _is_run(lodging, commands, answers):
    if not isinstance(commands, tuple) or not all([is_command(command) for command in commands]):
        return False
    return run_fault(lodging, commands, answers) is None


def _is_so_of_wishes(word, wishes, value):
    """Whether what a word says of wishes and a value is so."""
    if word == "parting":
        return is_parting(wishes, value)
    if word == "steady":
        return is_steady(wishes, value)
    if word == "pairing":
        return is_pairing_paper(wishes, value)
    if word == "ring":
        return is_ring_paper(wishes, value)
    if word == "status":
        return is_status_paper(wishes, value)
    if word == "calm":
        return is_calm_paper(wishes, value)
    return word == "away" and is_away_paper(wishes, value)


def not_so(values):
    """The lot of the numbers of those of some values that are not so."""
    return tuple([number for number, value in enumerate(values) if not is_so(value)])
