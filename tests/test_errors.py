"""Point 5: the errors."""

import unittest

from lastpairs.errors import (
    Broken, InvalidNumber, InvalidPairing, InvalidPaper, InvalidParting, InvalidText, InvalidWishes, MateError, Refused,
)
from tests.helpers import zoo

WITH_AT = (InvalidWishes, InvalidPairing, InvalidParting, InvalidPaper)
WITH_WORD = (InvalidNumber, Refused, Broken)


class ErrorsTest(unittest.TestCase):
    def test_families(self):
        self.assertEqual(MateError.__bases__, (ValueError,))
        for error in WITH_AT + WITH_WORD + (InvalidText,):
            self.assertEqual(error.__bases__, (MateError,))

    def test_attributes_are_any_values(self):
        for value in zoo():
            for error in WITH_AT:
                self.assertIs(error(value).at, value)
                self.assertIs(error(at=value).at, value)
            for error in WITH_WORD:
                self.assertIs(error(value).word, value)
                self.assertIs(error(word=value).word, value)
            told = InvalidText(value, at=7)
            self.assertIs(told.line, value)
            self.assertEqual(told.at, 7)
            self.assertIs(InvalidText(line=1, at=value).at, value)

    def test_they_can_be_raised_and_caught(self):
        for error in WITH_AT + WITH_WORD:
            with self.assertRaises(MateError):
                raise error(3)
        with self.assertRaises(ValueError):
            raise InvalidText(1, 2)


if __name__ == "__main__":
    unittest.main()
