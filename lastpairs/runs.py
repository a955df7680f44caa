"""Runs: commands done one after another in a lodging, each with its result and a paper that shows it."""

from lastpairs.askpapers import barring_asks, can_still_be
from lastpairs.commands import read_commands
from lastpairs.lodgings import is_deed, lodging_after
from lastpairs.nearlypapers import away_paper, calm_paper
from lastpairs.partings import odd_rings_in
from lastpairs.plain import blocking_pairs
from lastpairs.settlings import settling
from lastpairs.statuses import PairingPaper, RingPaper, status_paper
from lastpairs.wishes import is_wished

DEEDS = ("come", "go", "list", "part", "join", "meet")


def run_commands(lodging, commands):
    """The results of commands, done one after another."""
    return tuple([result for result, _ in run_with_papers(lodging, commands)])


def run_with_papers(lodging, commands):
    """For each command its result and a right paper, or None."""
    answers = []
    for command in commands:
        answer = _answer_to(lodging, command)
        answers.append(answer)
        lodging = lodging_behind(lodging, command, answer[0])
    return tuple(answers)


def lodging_of_run(lodging, commands, results):
    """The lodging behind commands with results."""
    for command, result in zip(commands, results):
        lodging = lodging_behind(lodging, command, result)
    return lodging


def lodging_behind(lodging, command, result):
    """The lodging behind one command with its result."""
    if result[0] == "did":
        return lodging_after(lodging, deed_of(lodging, command))
    if result[0] == "settled":
        pairing = tuple([numbers_of(lodging, pair) for pair in result[1]])
        return lodging_after(lodging, ("settle", pairing))
    return lodging


def numbers_of(lodging, names):
    """The numbers of the persons with these names; None for a name that nobody has."""
    numbers = {name: number for number, name in enumerate(lodging.wishes.names)}
    return tuple([numbers.get(name) for name in names])


def names_of(lodging, persons):
    """The names of persons."""
    return tuple([lodging.wishes.names[person] for person in persons])


def names_of_pairs(lodging, pairing):
    """The pairs of a pairing as pairs of names."""
    return tuple([names_of(lodging, pair) for pair in pairing])


def deed_of(lodging, command):
    """The deed that a command is for, told by numbers; it is none that can be done if nobody has one of the names."""
    word = command[0]
    if word == "come":
        persons = numbers_of(lodging, [name for name, _ in command[2]])
        return word, command[1], tuple([(person, pair[1]) for person, pair in zip(persons, command[2])])
    if word == "list":
        return word, numbers_of(lodging, command[1:2])[0], numbers_of(lodging, command[2])
    if word == "go":
        return (word,) + numbers_of(lodging, command[1:])
    one, other = numbers_of(lodging, command[1:3])
    if one is not None and other is not None and one > other:
        return (word, other, one) + command[3:][::-1]
    return (word, one, other) + command[3:]


def result_of_deed(lodging, command):
    """The result of a command for a deed."""
    return ("did",) if is_deed(lodging, deed_of(lodging, command)) else ("refused",)


def _settle(lodging, _):
    word, told = settling(lodging)
    if word == "settle":
        return ("settled", names_of_pairs(lodging, told)), PairingPaper(told)
    ring = odd_rings_in(told)[0]
    return ("barred", names_of(lodging, ring)), RingPaper(told, ring)


def _lasts(lodging, _):
    return results_of_lasts(lodging)[0], None


def results_of_lasts(lodging):
    """All results that a command can have which asks whether the pairing in force lasts."""
    pairs = blocking_pairs(lodging.wishes, lodging.pairing)
    return [("blocked",) + names_of(lodging, pair) for pair in pairs] or [("lasts",)]


def _status(lodging, command):
    person = numbers_of(lodging, command[1:])[0]
    if person is None:
        return ("refused",), None
    paper = status_paper(lodging.wishes, person)
    return ("status", paper.status), paper


def _calm(lodging, _):
    paper = calm_paper(lodging.wishes)
    return ("calm", len(paper.pairing)), paper


def _away(lodging, _):
    paper = away_paper(lodging.wishes)
    return ("away", names_of(lodging, paper.persons)), paper


def _left(lodging, command):
    result = result_of_left(lodging, command)
    if result != ("never",):
        return result, None
    one, other = numbers_of(lodging, command[1:])
    return result, barring_asks(lodging.wishes, one, other)


def result_of_left(lodging, command):
    """The result of a command that asks whether two persons are left to each other."""
    one, other = numbers_of(lodging, command[1:])
    if one is None or other is None or not is_wished(lodging.wishes, one, other):
        return ("refused",)
    return ("left",) if can_still_be(lodging.wishes, one, other) else ("never",)


ANSWERS = {
    "settle": _settle,
    "lasts": _lasts,
    "status": _status,
    "calm": _calm,
    "away": _away,
    "left": _left,
}


def _answer_to(lodging, command):
    """The result of a command, and a right paper, or None."""
    if command[0] in DEEDS:
        return result_of_deed(lodging, command), None
    action = ANSWERS[command[0]]
    return action(lodging, command)


def show_result(result):
    """The line of a result."""
    if result[0] == "settled":
        words = [", ".join([" ".join(pair) for pair in result[1]])]
    else:
        words = [" ".join(part) if isinstance(part, tuple) else str(part) for part in result[1:]]
    # Behind a word with nothing to tell there is no blank.
    return " ".join([result[0]] + [word for word in words if word])


def run_script(lodging, text):
    """The lines of the results of the commands of a text."""
    return tuple([show_result(result) for result in run_commands(lodging, read_commands(text))])
