"""Promise [62]: totals that are begun amid a day."""

import random
import unittest
from fractions import Fraction

from centsatonce.begun import begin_total, counted_errors, is_begun_day, no_starts, starts_behind
from centsatonce.days import errors_of, is_day
from centsatonce.tables import Table
from tests.helpers import Rude, Yes, errors_by_total, exact, kind_errors, odd_values, raised, random_fraction, random_lines
from tests.helpers import random_tables, rounded, told, with_swapped

TABLES = random_tables(62, 200, most_kinds=4, most_totals=4, sizes=(0, 1, 1, 2, 3))
TABLE = Table(("cup", "jam", "pie", "tea"), ((0, 1), (2, 3), (0, 2)))
DAY = ((0, (1, 2), 1), (3, (1, 4), 0), (1, (1, 2), 0))


def random_day(rng, table, most=8):
    return rounded(rng, random_lines(rng, table, rng.randint(0, most), 4))


def is_plain_begun(table, places, day):
    """Whether the counted errors lie between -1 and 1 where they count."""
    course = [errors_by_total(table, kind_errors(table, day[:many])) for many in range(len(day) + 1)]
    for total, place in enumerate(places):
        for at in range(len(day)):
            if at >= place and abs(course[at + 1][total] - course[place][total]) >= 1:
                return False
    return True


class Starts(unittest.TestCase):

    def test_no_starts(self):
        for table in TABLES:
            self.assertEqual(no_starts(table), ((0, 1),) * len(table.totals))
        self.assertEqual(no_starts(table=Table(("a",), ())), ())

    def test_counted_errors(self):
        rng = random.Random(1)
        for table in TABLES:
            errors = tuple(random_fraction(rng) for _ in table.kinds)
            starts = tuple(random_fraction(rng) for _ in table.totals)
            totals = errors_by_total(table, [exact(error) for error in errors])
            right = tuple(told(total - exact(start)) for total, start in zip(totals, starts))
            self.assertEqual(counted_errors(table, starts, errors), right)
        self.assertEqual(counted_errors(errors=((1, 2), (0, 1), (0, 1), (0, 1)), starts=((1, 3), (0, 1), (1, 2)), table=TABLE),
                         ((1, 6), (0, 1), (0, 1)))

    def test_begin_total(self):
        rng = random.Random(2)
        for table in TABLES:
            errors = tuple(random_fraction(rng) for _ in table.kinds)
            starts = tuple(random_fraction(rng) for _ in table.totals)
            size = rng.randint(0, len(table.kinds))
            total = tuple(sorted(rng.sample(range(len(table.kinds)), size)))
            begun, all_starts = begin_total(table, starts, errors, total)
            self.assertEqual(begun, Table(table.kinds, table.totals + (total,)))
            start = told(sum((exact(errors[kind]) for kind in total), Fraction(0)))
            self.assertEqual(all_starts, starts + (start,))
            self.assertEqual(counted_errors(begun, all_starts, errors)[-1], (0, 1))
        errors = ((1, 2), (0, 1), (0, 1), (0, 1))
        begun, starts = begin_total(total=(0, 2), errors=errors, starts=no_starts(TABLE), table=TABLE)
        self.assertEqual((begun.totals[-1], starts), ((0, 2), ((0, 1), (0, 1), (0, 1), (1, 2))))
        self.assertEqual(begin_total(TABLE, no_starts(TABLE), errors, ())[1][-1], (0, 1))

    def test_begin_refused(self):
        full = Table(("a", "b"), ((0,),) * 12)
        for table in (Table(("a", "b"), ()), full):
            for total in [(2,), (1, 0), (0, 0), [0], None, (True,), "0", Rude(), Yes(), (Rude(),), (0.0,)]:
                self.assertEqual(raised(begin_total, table, no_starts(table), ((0, 1),) * 2, total),
                                 ("Refused", {"word": "total"}))
        for total in ((), (0,), (0, 1)):
            self.assertEqual(raised(begin_total, full, no_starts(full), ((0, 1),) * 2, total), ("Refused", {"word": "size"}))

    def test_starts_behind(self):
        rng = random.Random(3)
        for table in TABLES:
            day = random_day(rng, table)
            places = tuple(rng.randint(0, len(day)) for _ in table.totals)
            right = tuple(told(errors_by_total(table, kind_errors(table, day[:place]))[total])
                          for total, place in enumerate(places))
            self.assertEqual(starts_behind(table, places, day), right)
            self.assertEqual(starts_behind(table, (0,) * len(table.totals), day), no_starts(table))
        self.assertEqual(starts_behind(day=DAY, places=(1, 2, 3), table=TABLE), ((1, 2), (-1, 4), (1, 2)))

    def test_totals_begun_one_after_another(self):
        rng = random.Random(4)
        for table in TABLES:
            if not table.totals:
                continue
            day = random_day(rng, table)
            places = tuple(sorted(rng.randint(0, len(day)) for _ in table.totals))
            begun, starts = Table(table.kinds, ()), ()
            for total, place in zip(table.totals, places):
                begun, starts = begin_total(begun, starts, errors_of(table, day[:place]), total)
            self.assertEqual(begun, table)
            self.assertEqual(starts_behind(table, places, day), starts)


class BegunDays(unittest.TestCase):

    def test_against_plain_reckoning(self):
        rng = random.Random(5)
        seen = {True: 0, False: 0}
        for table in TABLES:
            for _ in range(5):
                day = random_day(rng, table, 5)
                places = tuple(rng.choice((0, 1, 2, len(day), len(day) + 1, 10 ** 40)) for _ in table.totals)
                right = is_plain_begun(table, places, day)
                self.assertIs(is_begun_day(table, places, day), right)
                seen[right] += 1
        self.assertGreater(min(seen.values()), 40)

    def test_from_the_beginning(self):
        rng = random.Random(6)
        for table in TABLES:
            day = random_day(rng, table, 5)
            self.assertIs(is_begun_day(table, (0,) * len(table.totals), day), is_day(table, day))

    def test_edges(self):
        one = Table(("cup",), ((0,),))
        ups = ((0, (1, 2), 1),) * 3
        for place, right in ((0, False), (1, False), (2, True), (3, True), (4, True), (10 ** 30, True)):
            self.assertIs(is_begun_day(one, (place,), ups), right)
        two = ((0, (1, 3), 1), (0, (2, 3), 1), (0, (1, 2), 0))
        for place, right in ((0, False), (1, True), (2, True)):
            self.assertIs(is_begun_day(value=two, places=(place,), table=one), right)
        self.assertIs(is_begun_day(one, (0,), ()), True)
        self.assertIs(is_begun_day(one, (5,), ()), True)
        self.assertIs(is_begun_day(Table(("cup",), ()), (), ups), True)

    def test_limit(self):
        one = Table(("cup",), ((0,),))
        self.assertIs(is_begun_day(one, (0,), ((0, (1, 1), 1),) * 400), True)
        self.assertIs(is_begun_day(one, (0,), ((0, (1, 1), 1),) * 401), False)
        self.assertIs(is_begun_day(one, (500,), ((0, (1, 1), 1),) * 401), False)

    def test_other_values(self):
        for other in (True, None, [], 1.0, "1", 10 ** 7, Rude(), Yes()):
            for value in with_swapped(DAY, other):
                self.assertIs(is_begun_day(TABLE, (9, 9, 9), value), False)
        for value in odd_values():
            self.assertIs(is_begun_day(TABLE, (0, 1, 2), value), False)
        self.assertIs(is_begun_day(TABLE, (0, 1, 2), DAY), True)


if __name__ == "__main__":
    unittest.main()
