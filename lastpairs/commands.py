"""Commands for a desk, as tuples and as lines of a text."""

from lastpairs.errors import InvalidText
from lastpairs.kinds import is_name, is_number, is_tuple_of

MOST = 60

# What stands behind the word of a command. What may be of any length stands last.
SHAPES = {
    "come": ("name", "places"),
    "go": ("name",),
    "list": ("name", "names"),
    "part": ("name", "name"),
    "join": ("name", "name"),
    "meet": ("name", "name", "number", "number"),
    "settle": (),
    "lasts": (),
    "status": ("name",),
    "calm": (),
    "away": (),
    "left": ("name", "name"),
}


def is_command(value):
    """Whether a value is a command."""
    if not isinstance(value, tuple) or not value or not isinstance(value[0], str):
        return False
    if value[0] not in SHAPES:
        return False
    shape = SHAPES[value[0]]
    if len(value) != len(shape) + 1:
        return False
    return all([_is_part(kind, part) for kind, part in zip(shape, value[1:])])


def _is_part(kind, part):
    if kind == "name":
        return is_name(part)
    if kind == "number":
        return _is_place(part)
    if not isinstance(part, tuple):
        return False
    if kind == "names":
        return all([is_name(name) for name in part])
    return all([is_tuple_of(pair, 2) and is_name(pair[0]) and _is_place(pair[1]) for pair in part])


def _is_place(value):
    return is_number(value) and value <= MOST


def read_commands(text):
    """The commands of a text."""
    if not isinstance(text, str):
        raise InvalidText(-1, -1)
    commands = []
    for number, line in enumerate(text.split("\n")):
        words = [word for word in line.split(" ") if word]
        if words:
            command = _command_of(words)
            if not is_command(command):
                raise InvalidText(number, 0)
            commands.append(command)
    return tuple(commands)


def _command_of(words):
    """What the words of a line tell, be it a command or not."""
    shape = SHAPES.get(words[0], ())
    parts = [words[0]]
    at = 1
    for kind in shape:
        if kind in ("name", "number"):
            parts.extend([_told(kind, word) for word in words[at:at + 1]])
            at += 1
        else:
            parts.append(_told_rest(kind, words[at:]))
            at = len(words)
    # Words that are too many go along, so that the tuple is no command.
    return tuple(parts + words[at:])


def _told(kind, word):
    return _number_of(word) if kind == "number" else word


def _told_rest(kind, words):
    if kind == "names":
        return tuple(words)
    return tuple([_told_pair(words[at:at + 2]) for at in range(0, len(words), 2)])


def _told_pair(words):
    return tuple(words[:1] + [_number_of(word) for word in words[1:]])


def _number_of(word):
    """The number that a word tells, or None. Each number has just one numeral."""
    for number in range(MOST + 1):
        if str(number) == word:
            return number
    return None


def show_command(command):
    """The line of a command."""
    words = [command[0]]
    for part in command[1:]:
        words.extend(_words_of(part))
    return " ".join(words)


def _words_of(part):
    if not isinstance(part, tuple):
        return [str(part)]
    words = []
    for inner in part:
        words.extend(_words_of(inner))
    return words


def show_commands(commands):
    """The text of some commands, one a line."""
    return "\n".join([show_command(command) for command in commands])
