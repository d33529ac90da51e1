"""Promise [11]: marks."""

import random
import unittest

from centsatonce.lexer import marks_of
from tests.plain_reader import plain_marks

SIGNS = "".join(chr(code) for code in range(32, 127)) + "\n"


def rebuilt(marks):
    """The signs that marks tell, by their lines and places."""
    return {(line, at + more): sign for line, at, mark in marks for more, sign in enumerate(mark)}


class Marks(unittest.TestCase):

    def test_runs(self):
        self.assertEqual(marks_of("tea12cup"), ((0, 0, "tea"), (0, 3, "12"), (0, 5, "cup")))
        self.assertEqual(marks_of("0012 3"), ((0, 0, "0012"), (0, 5, "3")))
        self.assertEqual(marks_of("a b"), ((0, 0, "a"), (0, 2, "b")))
        self.assertEqual(marks_of(text="ab"), ((0, 0, "ab"),))
        self.assertEqual(marks_of("a" * 5000 + "0" * 5000), ((0, 0, "a" * 5000), (0, 5000, "0" * 5000)))

    def test_none(self):
        self.assertEqual(marks_of(""), ())
        self.assertEqual(marks_of("     "), ())

    def test_newlines_belong_to_the_line_that_they_end(self):
        self.assertEqual(marks_of("\n\n a\n"), ((0, 0, "\n"), (1, 0, "\n"), (2, 1, "a"), (2, 2, "\n")))
        self.assertEqual(marks_of("ab\ncd"), ((0, 0, "ab"), (0, 2, "\n"), (1, 0, "cd")))
        self.assertEqual(marks_of("  \n"), ((0, 2, "\n"),))

    def test_single_signs(self):
        for sign in SIGNS:
            if sign == " " or sign.islower() or sign.isdigit():
                continue
            second = (1, 0, sign) if sign == "\n" else (0, 1, sign)
            self.assertEqual(marks_of(sign + sign), ((0, 0, sign), second))
        self.assertEqual(marks_of("aBc"), ((0, 0, "a"), (0, 1, "B"), (0, 2, "c")))
        self.assertEqual(marks_of("AB"), ((0, 0, "A"), (0, 1, "B")))
        self.assertEqual(marks_of("-7/2 = -4"), ((0, 0, "-"), (0, 1, "7"), (0, 2, "/"), (0, 3, "2"), (0, 5, "="),
                                                 (0, 7, "-"), (0, 8, "4")))

    def test_all_letters_and_digits_make_runs(self):
        letters, digits = "abcdefghijklmnopqrstuvwxyz", "0123456789"
        self.assertEqual(marks_of(letters), ((0, 0, letters),))
        self.assertEqual(marks_of(digits), ((0, 0, digits),))

    def test_many_texts(self):
        rng = random.Random(11)
        for _ in range(3000):
            signs = rng.choice((SIGNS, "ab01 \n-/=", "a1 \n", "a 1A\n"))
            text = "".join(rng.choice(signs) for _ in range(rng.randint(0, 25)))
            marks = marks_of(text)
            self.assertEqual([mark for _, _, mark in marks], plain_marks(text))
            right = {}
            for line, row in enumerate(text.split("\n")):
                row = row if line == text.count("\n") else row + "\n"
                right.update({(line, at): sign for at, sign in enumerate(row) if sign != " "})
            self.assertEqual(rebuilt(marks), right)
            self.assertIs(type(marks), tuple)


if __name__ == "__main__":
    unittest.main()
