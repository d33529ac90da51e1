"""Promise [14], with [11] and [12]: texts."""

import random
import sys
import unittest

from centsatonce.lexer import marks_of
from centsatonce.printer import show_day, show_fraction, show_lines, show_sequence, show_table
from centsatonce.tables import Table
from tests.helpers import NAMES, random_fraction, random_lines, random_tables, rounded
from tests.plain_reader import read_day, read_fraction, read_lines, read_sequence, read_table

TABLES = random_tables(14, 120)
TABLE = Table(("cup", "jam", "tea"), ((0, 2), (), (1,)))
SOME = [(top, bottom) for top in range(-9, 10) for bottom in range(1, 9)]


def count_marks(one):
    """The number of marks that a fraction needs."""
    return (one[0] < 0) + 1 + 2 * (one[1] != 1)


class Fractions(unittest.TestCase):

    def test_shown(self):
        for one, text in (((0, 1), "0"), ((5, 1), "5"), ((-5, 1), "-5"), ((1, 2), "1/2"), ((-3, 2), "-3/2"),
                          ((10 ** 6, 999999), "1000000/999999"), ((-10 ** 6, 1), "-1000000")):
            self.assertEqual(show_fraction(one), text)
        self.assertEqual(show_fraction(one=(7, 3)), "7/3")

    def test_read_again(self):
        rng = random.Random(1)
        for _ in range(2000):
            one = random_fraction(rng, 10 ** 6, tuple(range(1, 30)) + (10 ** 6, 99991))
            text = show_fraction(one)
            self.assertEqual(read_fraction(text), one)
            self.assertEqual(len(marks_of(text)), count_marks(one))
            self.assertNotIn(" ", text)

    def test_long_ones(self):
        longest = sys.get_int_max_str_digits()
        self.addCleanup(sys.set_int_max_str_digits, longest)
        for power in (63, 64, 65, 127, 128, 129, 4000, 4299, 4301, 9000):
            for number in (10 ** power, 10 ** power - 1, 10 ** power + 10 ** (power // 2), 7 ** power):
                sys.set_int_max_str_digits(longest)
                shown = (show_fraction((number, 1)), show_fraction((-number, 1)), show_fraction((1, number)),
                         show_fraction((-number - 1, number)))
                sys.set_int_max_str_digits(0)
                self.assertEqual(shown, (str(number), str(-number), f"1/{number}", f"-{number + 1}/{number}"))


class Tables(unittest.TestCase):

    def test_shown(self):
        self.assertEqual(show_table(table=TABLE), "kinds cup jam tea\ntotal cup tea\ntotal\ntotal jam")
        self.assertEqual(show_table(Table(("kinds", "total"), ((0, 1),))), "kinds kinds total\ntotal kinds total")
        self.assertEqual(show_table(Table(("a",), ())), "kinds a")
        self.assertEqual(show_table(Table(("a",), ((),))), "kinds a\ntotal")
        full = Table(NAMES, (tuple(range(12)),) * 12)
        self.assertEqual(show_table(full), "\n".join(["kinds " + " ".join(NAMES)] + ["total " + " ".join(NAMES)] * 12))

    def test_read_again(self):
        for table in TABLES:
            text = show_table(table)
            self.assertEqual(read_table(text), (table.kinds, table.totals))
            fewest = 1 + len(table.kinds) + sum(2 + len(total) for total in table.totals)
            self.assertEqual(len(marks_of(text)), fewest)
            self.check_blanks(text)

    def check_blanks(self, text):
        for line in text.split("\n"):
            self.assertEqual(line, " ".join(line.split()))
            self.assertNotEqual(line, "")


class Lines(unittest.TestCase):

    def test_none(self):
        for show in (show_lines, show_day, show_sequence):
            self.assertEqual(show(TABLE, ()), "")

    def test_shown(self):
        self.assertEqual(show_lines(TABLE, ((2, (7, 2)),)), "tea 7/2")
        self.assertEqual(show_lines(lines=((2, (-7, 2)), (0, (0, 1))), table=TABLE), "tea -7/2\ncup 0")
        self.assertEqual(show_day(TABLE, ((2, (7, 2), 4), (0, (-2, 1), -2))), "tea 7/2 = 4\ncup -2 = -2")
        self.assertEqual(show_day(day=((1, (-1, 3), 0),), table=TABLE), "jam -1/3 = 0")
        self.assertEqual(show_sequence(TABLE, (2, 2, 0)), "tea tea cup")
        self.assertEqual(show_sequence(sequence=(1,), table=TABLE), "jam")
        self.assertEqual((show_fraction((-3, 2)), show_fraction((5, 1))), ("-3/2", "5"))

    def test_read_again(self):
        rng = random.Random(2)
        for table in TABLES:
            lines = random_lines(rng, table, rng.randint(0, 8), 1000)
            day = rounded(rng, lines)
            sequence = tuple(kind for kind, _ in lines)
            for text, read, thing in ((show_lines(table, lines), read_lines, lines), (show_day(table, day), read_day, day),
                                      (show_sequence(table, sequence), read_sequence, sequence)):
                self.assertEqual(read(table, text), thing)
                for line in text.split("\n"):
                    self.assertEqual(line, " ".join(line.split()))
                self.assertEqual(text == "", lines == ())
            ends = max(0, len(lines) - 1)
            amounts = sum(1 + count_marks(amount) for _, amount in lines)
            self.assertEqual(len(marks_of(show_lines(table, lines))), amounts + ends)
            wholes = sum(2 + (whole < 0) for _, _, whole in day)
            self.assertEqual(len(marks_of(show_day(table, day))), amounts + wholes + ends)
            self.assertEqual(len(marks_of(show_sequence(table, sequence))), len(lines))

    def test_four_hundred(self):
        lines = ((0, (1, 2)),) * 400
        self.assertEqual(read_lines(TABLE, show_lines(TABLE, lines)), lines)
        self.assertEqual(show_sequence(TABLE, (0,) * 400), " ".join(["cup"] * 400))


if __name__ == "__main__":
    unittest.main()
