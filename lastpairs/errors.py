"""The errors that the functions of this package raise."""


class MateError(ValueError):
    """What all errors of this package have in common."""


class InvalidWishes(MateError):
    """Names and lists that are no wishes."""

    def __init__(self, at):
        self.at = at


class InvalidText(MateError):
    """A text that does not tell what it should."""

    def __init__(self, line, at):
        self.line = line
        self.at = at


class InvalidPairing(MateError):
    """A value that is no pairing."""

    def __init__(self, at):
        self.at = at


class InvalidParting(MateError):
    """A value that is no parting."""

    def __init__(self, at):
        self.at = at


class InvalidPaper(MateError):
    """A value that is no paper."""

    def __init__(self, at):
        self.at = at


class InvalidNumber(MateError):
    """A value that is not the number that it should be."""

    def __init__(self, word):
        self.word = word


class Refused(MateError):
    """Something that cannot be done."""

    def __init__(self, word):
        self.word = word


class Broken(MateError):
    """Cells of a disk that cannot be read."""

    def __init__(self, word):
        self.word = word
