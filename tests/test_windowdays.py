"""Promise [35]: window days."""

import random
import unittest
from itertools import product

from centsatonce.court import Blocks, court
from centsatonce.days import choices
from centsatonce.tables import Table
from centsatonce.windowdays import is_window_day, window_day
from tests.helpers import NAMES, Rude, Yes, deep_tuple, exact, is_kept_day, odd_values, plain_classes, random_lines
from tests.helpers import told, with_swapped
from tests.test_window import GOOD, behind, is_plain_inside, some_blocks

TABLE = Table(("cup", "tea"), ((0,), (1,), (0, 1)))
BLOCKS = Blocks((1, -1), ((0, 1),))
LINES = ((0, (1, 2)), (1, (1, 2)), (0, (1, 2)))
LONG = Table(NAMES, tuple((at, at + 1) for at in range(11)) + ((11,),))


def is_plain_window_day(table, blocks, day):
    """Whether behind each line of a day the errors are inside."""
    errors = ((0, 1),) * len(table.kinds)
    for kind, amount, whole in day:
        errors = behind(errors, kind, amount, whole)
        if not is_plain_inside(table, blocks, errors):
            return False
    return True


def all_roundings(lines):
    """All days with some lines."""
    for wholes in product(*(choices(amount) for _, amount in lines)):
        yield tuple((kind, amount, whole) for (kind, amount), whole in zip(lines, wholes))


class Days(unittest.TestCase):

    def test_all_roundings(self):
        rng = random.Random(1)
        seen = {True: 0, False: 0}
        for table in GOOD[:150]:
            blocks = some_blocks(rng, table)
            lines = random_lines(rng, table, rng.randint(0, 6))
            for day in all_roundings(lines):
                right = is_plain_window_day(table, blocks, day)
                self.assertIs(is_window_day(table, blocks, day), right)
                seen[right] += 1
                if right:
                    self.assertTrue(is_kept_day(table, day))
                    self.assertEqual(window_day(table, blocks, lines, tuple(whole for _, _, whole in day)), day)
        self.assertGreater(min(seen.values()), 200)

    def test_nearest_to_wishes(self):
        rng = random.Random(2)
        for table in GOOD[:150]:
            blocks = some_blocks(rng, table)
            lines = random_lines(rng, table, rng.randint(0, 10))
            wishes = tuple(rng.choice((rng.randint(-9, 9), rng.randint(-2, 2), 10 ** 30, -10 ** 30)) for _ in lines)
            day = window_day(table, blocks, lines, wishes)
            self.assertEqual(tuple(line[:2] for line in day), lines)
            self.assertTrue(is_kept_day(table, day))
            self.assertIs(is_window_day(table, blocks, day), True)
            errors = ((0, 1),) * len(table.kinds)
            for (kind, amount, whole), wish in zip(day, wishes):
                wholes = [one for one in (exact(amount).__floor__(), exact(amount).__ceil__())
                          if is_plain_inside(table, blocks, behind(errors, kind, amount, one))]
                self.assertEqual(whole, min(wholes, key=lambda one: abs(one - wish)))
                errors = behind(errors, kind, amount, whole)

    def test_examples(self):
        day = ((0, (1, 2), 1), (1, (1, 2), 0), (0, (1, 2), 0))
        self.assertEqual(window_day(TABLE, BLOCKS, LINES, (1, 1, 1)), day)
        self.assertEqual(window_day(wishes=(9, -9, 9), lines=LINES, blocks=BLOCKS, table=TABLE),
                         ((0, (1, 2), 1), (1, (1, 2), 0), (0, (1, 2), 0)))
        self.assertIs(is_window_day(value=day, blocks=BLOCKS, table=TABLE), True)
        self.assertEqual(window_day(TABLE, BLOCKS, (), ()), ())
        self.assertIs(is_window_day(TABLE, BLOCKS, ()), True)

    def test_kept_days_that_are_no_window_days(self):
        # The two totals of one class are kept, but the classes together are not.
        tie = Table(("a", "b", "c"), ((0, 1), (1, 2)))
        blocks = court(tie)
        day = ((0, (1, 2), 1), (2, (1, 2), 0))
        self.assertTrue(is_kept_day(tie, day))
        self.assertIs(is_window_day(tie, blocks, day), False)
        self.assertIs(is_window_day(tie, blocks, day[:1] + ((2, (1, 2), 1),)), True)

    def test_kinds_in_no_total(self):
        table = Table(("cup", "jam"), ((0,),))
        blocks = court(table)
        day = window_day(table, blocks, ((1, (7, 2)),) * 5, (9, 9, 9, -9, 9))
        self.assertEqual(tuple(whole for _, _, whole in day), (4, 4, 4, 3, 4))
        self.assertIs(is_window_day(table, blocks, day), True)

    def test_four_hundred_lines(self):
        rng = random.Random(3)
        for kinds in (range(12), (0,), (0, 11)):
            lines = tuple((rng.choice(kinds), told(exact((rng.randint(-10 ** 6, 10 ** 6), 1)) / rng.randint(1, 10 ** 6)))
                          for _ in range(400))
            wishes = tuple(rng.randint(-5, 5) for _ in lines)
            day = window_day(LONG, court(LONG), lines, wishes)
            self.assertIs(is_window_day(LONG, court(LONG), day), True)
            self.assertIs(is_window_day(LONG, court(LONG), day + ((0, (1, 1), 1),)), False)
        whole = ((0, (1, 1), 1),)
        self.assertIs(is_window_day(LONG, court(LONG), whole * 400), True)
        self.assertIs(is_window_day(LONG, court(LONG), whole * 401), False)


class AnyValue(unittest.TestCase):

    def test_other_values(self):
        day = window_day(TABLE, BLOCKS, LINES, (1, 1, 1))
        for value in odd_values() + [list(day), 0]:
            self.assertIs(is_window_day(TABLE, BLOCKS, value), False)
            self.assertIs(is_window_day(TABLE, BLOCKS, (value,)), False)
            self.assertIs(is_window_day(TABLE, BLOCKS, day + (value,)), False)
        for other in (True, False, None, 1.0, "1", [], Rude(), Yes(), 10 ** 30, -2, deep_tuple(2000)):
            for value in with_swapped(day, other):
                self.assertIs(is_window_day(TABLE, BLOCKS, value), False)

    def test_nearly_days(self):
        for line in [(0, (1, 2), 2), (0, (1, 2), -1), (2, (1, 2), 0), (0, (2, 4), 0), (0, (1000001, 1), 1000001),
                     (0, (1, 2)), (0, (1, 2), 0, 0), (0, (1, 2), True), (False, (1, 2), 0), (0, [1, 2], 0)]:
            self.assertIs(is_window_day(TABLE, BLOCKS, (line,)), False)
        self.assertIs(is_window_day(TABLE, BLOCKS, ((0, (1, 2), 1), (0, (1, 2), 1))), False)
        self.assertIs(is_window_day(TABLE, BLOCKS, ((0, (1, 2), 1), (0, (1, 2), 0))), True)

    def test_other_colours(self):
        for table in GOOD[:60]:
            blocks = court(table)
            turned = Blocks(tuple(-colour for colour in blocks.colours), blocks.pieces)
            self.assertEqual(len(blocks.colours), len(plain_classes(table)))
            rng = random.Random(4)
            day = window_day(table, blocks, random_lines(rng, table, 8), tuple(range(-4, 4)))
            self.assertIs(is_window_day(table, turned, day), True)


if __name__ == "__main__":
    unittest.main()
