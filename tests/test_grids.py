"""Promise [52]: grids of held errors, and days that clear errors."""

import random
import unittest
from fractions import Fraction
from itertools import combinations, product

from centsatonce.court import court, is_good
from centsatonce.days import choices, totals_by
from centsatonce.grids import all_held, clearing_day, count_held, fewest_clearing
from centsatonce.held import are_held
from centsatonce.tables import Table
from tests.helpers import NAMES, exact, odd_values, plain_classes, plain_totals, raised, random_tables, told
from tests.test_spoils import ring_table
from tests.test_window import inside_errors, is_plain_inside, plain_points

TABLES = random_tables(52, 250, most_kinds=4, most_totals=5, sizes=(0, 1, 2, 2, 2))
GOOD = [table for table in TABLES if is_good(table)]
RING = ring_table(3)
LINE = Table(NAMES, tuple((at, at + 1) for at in range(11)) + ((11,),))
NO_BOTTOM = ("InvalidNumber", {"word": "bottom"})
KNOT = ("Refused", {"word": "knot"})
SIZE = ("Refused", {"word": "size"})
LOST = ("Refused", {"word": "lost"})


def plain_held(table, bottom):
    """All tuples of errors of totals on a grid, by trying all errors of classes there."""
    found = set()
    classes = plain_classes(table)
    for units in product(range(1 - bottom, bottom), repeat=len(classes)):
        errors = [(0, 1)] * len(table.kinds)
        for kinds, unit in zip(classes, units):
            errors[kinds[0]] = told(Fraction(unit, bottom))
        if is_plain_inside(table, court(table), tuple(errors)):
            found.add(totals_by(table, tuple(errors)))
    return tuple(sorted(found))


def count_by_points(table, bottom):
    many = 1
    for points in plain_points(table, court(table), ((0, 1),) * len(table.kinds)):
        many *= bottom ** len(points) - (bottom - 1) ** len(points)
    return many


def leads_through_held(table, errors, day):
    """The errors behind a day of any amounts that stays at held errors, None if it does not."""
    for kind, amount, whole in day:
        if whole not in choices(amount):
            return None
        errors = errors[:kind] + (told(exact(errors[kind]) + whole - exact(amount)),) + errors[kind + 1:]
        if not is_plain_inside(table, court(table), errors):
            return None
    return errors


def fewest_touched(table, errors):
    """The least number of classes that have to be moved for all totals to come to 0, by trying all lots of them."""
    classes = plain_classes(table)
    own = [sum((exact(errors[kind]) for kind in kinds), Fraction(0)) for kinds in classes]
    for many in range(len(classes) + 1):
        for moved in combinations(range(len(classes)), many):
            if can_come_to_nought(table, own, moved):
                return many


def can_come_to_nought(table, own, moved):
    """Whether moving some classes, and no others, can bring all totals to 0."""
    fixed = {number: own[number] for number in range(len(own)) if number not in moved}
    while True:
        fresh = {}
        for total in plain_totals(table):
            free = [number for number in total if number not in fixed]
            if not free and sum(fixed[number] for number in total):
                return False
            if len(free) == 1:
                fresh[free[0]] = -sum(fixed[number] for number in total if number in fixed)
        if not fresh:
            unknown = [number for number in range(len(own)) if number not in fixed]
            if not unknown:
                return True
            fresh = {unknown[0]: Fraction(0)}
        fixed.update(fresh)


class Counts(unittest.TestCase):

    def test_all_tuples_of_errors(self):
        for table in GOOD[:120]:
            for bottom in (1, 2, 3, 4):
                if (2 * bottom - 1) ** len(plain_classes(table)) > 400:
                    continue
                right = plain_held(table, bottom)
                self.assertEqual(count_held(table, bottom), len(right))
                self.assertEqual(count_by_points(table, bottom), len(right))
                self.assertEqual(all_held(table, bottom), right)
                for errors in right:
                    self.assertTrue(all(bottom % low == 0 and abs(top) < low for top, low in errors))

    def test_numbers_by_points(self):
        for table in GOOD + [LINE, ring_table(12)]:
            for bottom in (1, 2, 3, 7, 1000, 10 ** 40):
                many = count_by_points(table, bottom)
                self.assertEqual(count_held(table, bottom), many)
                if many > 500:
                    self.assertEqual(raised(all_held, table, bottom), SIZE)
                else:
                    self.assertEqual(len(all_held(table, bottom)), many)

    def test_500_and_501(self):
        # Each piece gives an odd number (n and n - 1 are not both even), so no table has just 500.
        pair = Table(("a",), ((0,),))
        self.assertEqual((count_held(pair, 250), count_held(pair, 251)), (499, 501))
        self.assertEqual(len(all_held(pair, 250)), 499)
        self.assertEqual(raised(all_held, pair, 251), SIZE)
        self.assertEqual(all_held(pair, 2), (((-1, 2),), ((0, 1),), ((1, 2),)))
        # Those of several pieces are multiplied.
        for totals, bottom, many in ((((0,), (1,), (2,)), 4, 343), (((0,), (1,)), 11, 441), (((0,), (1,)), 12, 529)):
            table = Table(("a", "b", "c"), totals)
            self.assertEqual(count_held(table, bottom), many)
            self.assertEqual(raised(all_held, table, bottom), None if many <= 500 else SIZE)

    def test_no_classes(self):
        for table in (Table(("a",), ()), Table(("a", "b"), ((), ()))):
            for bottom in (1, 5, 10 ** 4000):
                self.assertEqual(count_held(table, bottom), 1)
                self.assertEqual(all_held(table, bottom), (((0, 1),) * len(table.totals),))

    def test_examples(self):
        two = Table(("cup", "tea"), ((0,), (0, 1)))
        self.assertEqual(count_held(bottom=2, table=two), 7)
        self.assertEqual(len(all_held(bottom=2, table=two)), 7)
        self.assertIn(((1, 2), (1, 2)), all_held(two, 2))
        self.assertNotIn(((1, 2), (-1, 2)), all_held(two, 2))

    def test_refused(self):
        for table in (LINE, RING):
            for value in [0, -1, -10 ** 30] + [value for value in odd_values()]:
                self.assertEqual(raised(count_held, table, value), NO_BOTTOM)
                self.assertEqual(raised(all_held, table, value), NO_BOTTOM)
        for bottom in (1, 2, 1000, 10 ** 30):
            self.assertEqual(raised(count_held, RING, bottom), KNOT)
            self.assertEqual(raised(all_held, RING, bottom), KNOT)


class Clearing(unittest.TestCase):

    def check(self, table, errors):
        day = clearing_day(table, errors)
        self.assertEqual(fewest_clearing(table, errors), len(day))
        left = leads_through_held(table, errors, day)
        self.assertIsNotNone(left)
        self.assertEqual(totals_by(table, left), ((0, 1),) * len(table.totals))
        self.assertEqual(len(day), fewest_touched(table, errors))
        return len(day)

    def test_random_errors(self):
        rng = random.Random(1)
        seen = set()
        for table in GOOD:
            for _ in range(4):
                errors = inside_errors(rng, table, court(table))
                seen.add(self.check(table, errors))
        self.assertLessEqual({0, 1, 2, 3}, seen)

    def test_on_grids(self):
        for table in GOOD[:80]:
            classes = plain_classes(table)
            if len(classes) > 3:
                continue
            for units in product((-2, -1, 0, 1, 2), repeat=len(classes)):
                errors = [(0, 1)] * len(table.kinds)
                for kinds, unit in zip(classes, units):
                    errors[kinds[-1]] = told(Fraction(unit, 3))
                if are_held(table, tuple(errors)):
                    self.check(table, tuple(errors))

    def test_examples(self):
        two = Table(("cup", "tea"), ((0,), (0, 1)))
        day = clearing_day(errors=((1, 2), (0, 1)), table=two)
        self.assertEqual(fewest_clearing(errors=((1, 2), (0, 1)), table=two), 1)
        self.assertEqual([line[0] for line in day], [0])
        tie = Table(("a", "b", "c", "d"), ((0, 1), (1, 2), (2, 3)))
        # Signed, three of the classes meet at 1/2: not fixed, they need not come to 0.
        self.assertEqual(fewest_clearing(tie, ((1, 2), (-1, 2), (1, 2), (0, 1))), 1)
        self.assertEqual(fewest_clearing(tie, ((7, 2), (-7, 2), (7, 2), (-7, 2))), 0)
        self.assertEqual(clearing_day(Table(("a",), ((),)), ((99, 7),)), ())
        self.assertEqual(clearing_day(Table(("a", "b"), ((0,),)), ((0, 1), (99, 7))), ())

    def test_very_long_errors(self):
        rng = random.Random(2)
        bottom = 10 ** 3999 + 7
        errors = tuple(told(Fraction((-1) ** at * rng.randint(0, bottom // 2), bottom)) for at in range(12))
        day = clearing_day(LINE, errors)
        left = leads_through_held(LINE, errors, day)
        self.assertEqual(totals_by(LINE, left), ((0, 1),) * 12)
        self.assertEqual(len(day), 12)

    def test_refused(self):
        for errors in (((0, 1),) * 3, ((9, 1),) * 3):
            self.assertEqual(raised(clearing_day, RING, errors), KNOT)
            self.assertEqual(raised(fewest_clearing, RING, errors), KNOT)
        one = Table(("cup",), ((0,),))
        for error, refused in (((1, 1), LOST), ((-1, 1), LOST), ((999, 1000), None), ((-7, 2), LOST), ((0, 1), None)):
            self.assertEqual(raised(clearing_day, one, (error,)), refused)
            self.assertEqual(raised(fewest_clearing, one, (error,)), refused)


if __name__ == "__main__":
    unittest.main()
