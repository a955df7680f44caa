"""The marks of a text."""

LETTERS = "abcdefghijklmnopqrstuvwxyz"
DIGITS = "0123456789"


def marks_of(text):
    """All marks of a text, each with its line and its place there."""
    marks = []
    lines = text.split("\n")
    for number, line in enumerate(lines):
        for at, mark in _marks_of_line(line):
            marks.append((number, at, mark))
        if number < len(lines) - 1:
            marks.append((number, len(line), "\n"))
    return tuple(marks)


def _marks_of_line(line):
    marks = []
    at = 0
    while at < len(line):
        end = _end_of_mark(line, at)
        if line[at] != " ":
            marks.append((at, line[at:end]))
        at = end
    return marks


def _end_of_mark(line, at):
    for signs in (LETTERS, DIGITS):
        if line[at] in signs:
            return _end_of_run(line, at, signs)
    return at + 1


def _end_of_run(line, at, signs):
    end = at
    while end < len(line) and line[end] in signs:
        end += 1
    return end
