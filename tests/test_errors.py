"""Promise [5]: the errors."""

import unittest

from centsatonce import errors
from centsatonce.errors import Broken, InvalidDay, InvalidLine, InvalidNumber, InvalidPaper, InvalidTable
from centsatonce.errors import InvalidText, Refused, TillError
from tests.helpers import odd_values

WITH_AT = (InvalidTable, InvalidLine, InvalidDay, InvalidPaper)
WITH_WORD = (InvalidNumber, Refused, Broken)
ALL = WITH_AT + WITH_WORD + (InvalidText,)


class Errors(unittest.TestCase):

    def test_bases(self):
        self.assertEqual(TillError.__bases__, (ValueError,))
        for error in ALL:
            self.assertEqual(error.__bases__, (TillError,), error)
        self.assertEqual(len(set(ALL)), 8)

    def test_they_are_all(self):
        found = [item for item in vars(errors).values() if isinstance(item, type)]
        self.assertEqual(set(found), set(ALL) | {TillError})

    def test_any_values_are_kept(self):
        for value in odd_values():
            for error in WITH_AT:
                self.assertIs(error(value).at, value)
                self.assertIs(error(at=value).at, value)
            for error in WITH_WORD:
                self.assertIs(error(value).word, value)
                self.assertIs(error(word=value).word, value)
            self.assertIs(InvalidText(value, 1).line, value)
            self.assertIs(InvalidText(1, value).at, value)
            self.assertIs(InvalidText(at=1, line=value).line, value)

    def test_attributes_alone(self):
        for error in WITH_AT:
            self.assertEqual(vars(error(3)), {"at": 3})
        for error in WITH_WORD:
            self.assertEqual(vars(error("x")), {"word": "x"})
        self.assertEqual(vars(InvalidText(3, 4)), {"line": 3, "at": 4})

    def test_number_of_arguments(self):
        for error in WITH_AT + WITH_WORD:
            self.assertRaises(TypeError, error)
            self.assertRaises(TypeError, error, 1, 2)
        self.assertRaises(TypeError, InvalidText, 1)
        self.assertRaises(TypeError, InvalidText, 1, 2, 3)

    def test_caught_by_name(self):
        for error in WITH_AT + WITH_WORD:
            with self.assertRaises(error):
                raise error("x")
            with self.assertRaises(TillError):
                raise error("x")
        with self.assertRaises(ValueError):
            raise InvalidText(1, 2)


if __name__ == "__main__":
    unittest.main()
