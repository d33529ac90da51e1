"""Promise [77]: sheets."""

import random
import unittest
from fractions import Fraction

from centsatonce.court import court, is_good
from centsatonce.sheets import Sheet, is_sheet, new_sheet
from centsatonce.tables import Table
from tests.helpers import NAMES, OTHERS, Rude, Yes, odd_objects, odd_values, raised, random_fraction, random_tables
from tests.helpers import swapped_objects, told
from tests.test_spoils import ring_table
from tests.test_window import is_plain_inside

TABLES = random_tables(77, 200, most_kinds=5, most_totals=5, sizes=(0, 1, 2, 2, 2))
TABLE = Table(("cup", "tea"), ((0,), (0, 1)))
NO_TABLE = ("Refused", {"word": "table"})


class Sheets(unittest.TestCase):

    def test_open_or_not(self):
        rng = random.Random(1)
        seen = {True: 0, False: 0}
        for table in TABLES:
            for size in (0, 1, 1, 2):
                errors = tuple(random_fraction(rng, size, (1, 2, 3)) for _ in table.kinds)
                right = is_good(table) and is_plain_inside(table, court(table), errors)
                self.assertIs(is_sheet(Sheet(table, errors)), right)
                seen[right] += 1
        self.assertGreater(min(seen.values()), 100)

    def test_new(self):
        seen = set()
        for table in TABLES + [ring_table(3), ring_table(4)]:
            good = is_good(table)
            self.assertEqual(raised(new_sheet, table), None if good else NO_TABLE)
            if good:
                sheet = new_sheet(table=table)
                self.assertEqual(sheet, Sheet(table, ((0, 1),) * len(table.kinds)))
                self.assertIs(is_sheet(sheet), True)
            seen.add(good)
        self.assertEqual(seen, {True, False})

    def test_equal(self):
        one = Sheet(errors=((0, 1), (0, 1)), table=TABLE)
        self.assertTrue(one == Sheet(Table(("cup", "tea"), ((0,), (0, 1))), ((0, 1), (0, 1))))
        self.assertFalse(one != Sheet(TABLE, ((0, 1), (0, 1))))
        for other in (Sheet(TABLE, ((0, 1), (1, 2))), Sheet(Table(("cup", "tea"), ((0,),)), ((0, 1), (0, 1))), TABLE, None,
                      (TABLE, ((0, 1), (0, 1))), Sheet(TABLE, [(0, 1), (0, 1)]), Sheet(None, None), "sheet"):
            self.assertTrue(one != other)
            self.assertFalse(one == other)
        self.assertTrue(Sheet(None, 5) == Sheet(None, 5))

    def test_edges(self):
        one = Table(("cup",), ((0,),))
        for error, right in (((0, 1), True), ((999, 1000), True), ((1, 1), False), ((-1, 1), False), ((-999, 1000), True)):
            self.assertIs(is_sheet(Sheet(one, (error,))), right)
        bare = Table(("cup",), ())
        self.assertIs(is_sheet(Sheet(bare, ((10 ** 900, 7),))), True)
        self.assertIs(is_sheet(Sheet(ring_table(3), ((0, 1),) * 3)), False)
        self.assertIs(is_sheet(Sheet(ring_table(12), ((0, 1),) * 12)), True)

    def test_very_long_errors(self):
        rng = random.Random(2)
        bottom = 10 ** 3999 + 7
        line = Table(NAMES, tuple((at, at + 1) for at in range(11)) + ((11,),))
        errors = tuple(told(Fraction((-1) ** at * rng.randint(0, bottom - 1), bottom)) for at in range(12))
        self.assertIs(is_sheet(Sheet(line, errors)), True)
        self.assertIs(is_sheet(Sheet(line, errors[:3] + ((1, 2),) + errors[4:])), False)

    def test_any_value(self):
        errors = ((1, 4), (1, 3))
        self.assertIs(is_sheet(Sheet(TABLE, ((1, 4), (-1, 3)))), True)
        for value in odd_values() + odd_objects(Sheet, 2) + [TABLE]:
            self.assertIs(is_sheet(value), False)
            self.assertIs(is_sheet(Sheet(TABLE, value)), False)
            self.assertIs(is_sheet(Sheet(TABLE, (value, (0, 1)))), False)
            if not isinstance(value, Table):
                self.assertIs(is_sheet(Sheet(value, errors)), False)
        for other in [other for other in OTHERS if type(other) is not int]:
            for value in swapped_objects(Sheet, (TABLE, ((5, 12), (-11, 23))), other):
                self.assertIs(is_sheet(value), False)
        for errors in (((1, 4),), ((1, 4), (0, 1), (0, 1)), ((2, 8), (0, 1)), ((0, 1), (0, -1)), [(0, 1), (0, 1)],
                       ((0, 1), [0, 1]), ((0, 1), 0), ((0, 1), (0, 1.0)), ((0, 1), (Rude(), 1)), ((0, 1), (Yes(), 1)), ()):
            self.assertIs(is_sheet(Sheet(TABLE, errors)), False)


if __name__ == "__main__":
    unittest.main()
