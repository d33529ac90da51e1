"""Promises [15] and [16], with [3]: lines, days and their errors."""

import random
import unittest
from fractions import Fraction

from centsatonce.days import check_day, check_line, choices, course_of, errors_behind, errors_of, first_off, is_day
from centsatonce.days import total_errors, totals_by
from centsatonce.numbers import ceiling_of, floor_of
from centsatonce.tables import Table
from tests.helpers import Rude, Yes, deep_tuple, errors_by_total, exact, is_kept_day, kind_errors, odd_values, raised
from tests.helpers import random_fraction, random_lines, random_tables, rounded, told, with_swapped

MILLION = 10 ** 6
TABLE = Table(("cup", "jam", "tea"), ((0, 1, 2), (0, 2), (1, 2)))
TABLES = random_tables(15, 100)


def line_fault(value, table=TABLE):
    fault = raised(check_line, table, value)
    if fault is None:
        return None
    assert fault[0] == "InvalidLine", fault
    return fault[1]["at"]


def day_fault(value, table=TABLE):
    fault = raised(check_day, table, value)
    if fault is None:
        return None
    assert fault[0] == "InvalidDay", fault
    return fault[1]["at"]


class CheckLine(unittest.TestCase):

    def test_lines(self):
        for kind in range(3):
            for amount in ((0, 1), (1, 2), (-7, 3), (MILLION, 1), (-MILLION, 1), (1, MILLION), (MILLION, 999999),
                           (-999999, MILLION)):
                self.assertIsNone(check_line(TABLE, (kind, amount)))
        self.assertIsNone(check_line(value=(0, (1, 2)), table=TABLE))

    def test_no_pair(self):
        for value in [(), (0,), (0, (1, 2), 0), [0, (1, 2)], None, "0", 0, True, {0: (1, 2)}, Rude(), Yes(),
                      ((0, (1, 2)),), (9, 9, 9), b"ab", "ab"]:
            self.assertEqual(line_fault(value), -1)
        for value in odd_values():
            right = 0 if isinstance(value, tuple) and len(value) == 2 else -1
            if right == 0 and type(value[0]) is int and 0 <= value[0] < 3:
                right = 1
            self.assertEqual(line_fault(value), right)

    def test_no_kind(self):
        for kind in (3, -1, True, False, None, "cup", 0.0, (0,), [0], Rude(), Yes(), 10 ** 30):
            self.assertEqual(line_fault((kind, (1, 2))), 0)
            self.assertEqual(line_fault((kind, None)), 0)

    def test_no_amount(self):
        for amount in [(2, 4), (0, 2), (1, 0), (1, -2), (True, 2), (1, True), [1, 2], (1, 2, 3), (1,), 1, None, 0.5, "1",
                       (MILLION + 1, 1), (-MILLION - 1, 1), (1, MILLION + 1), (MILLION + 1, MILLION), Rude(), Yes(),
                       (10 ** 5000, 1), (1, 10 ** 5000), (Rude(), 1), (1, Yes()), deep_tuple(4000)] + odd_values():
            self.assertEqual(line_fault((0, amount)), 1)


class Choices(unittest.TestCase):

    def test_wholes(self):
        for whole in (-MILLION, -2, -1, 0, 1, 2, MILLION):
            self.assertEqual(choices((whole, 1)), (whole,))

    def test_others(self):
        self.assertEqual(choices(amount=(7, 2)), (3, 4))
        self.assertEqual(choices((-7, 2)), (-4, -3))
        self.assertEqual(choices((-1, 3)), (-1, 0))
        rng = random.Random(1)
        for _ in range(500):
            amount = random_fraction(rng, 1000, (2, 3, 5, 7, MILLION))
            self.assertEqual(choices(amount), tuple(sorted({floor_of(amount), ceiling_of(amount)})))
            if amount[1] > 1:
                low = exact(amount).__floor__()
                self.assertEqual(choices(amount), (low, low + 1))


class CheckDay(unittest.TestCase):

    def test_days(self):
        rng = random.Random(2)
        for table in TABLES:
            day = rounded(rng, random_lines(rng, table, rng.randint(0, 12)))
            self.assertIsNone(check_day(table, day))
            self.assertIs(is_day(table, day, False), True)
        self.assertIsNone(check_day(value=(), table=TABLE))

    def test_no_tuple(self):
        line = (0, (1, 2), 0)
        for value in [[line], None, 0, True, "", b"", {}, {line}, range(0), Rude(), Yes(), (line,) * 401, (None,) * 401,
                      [], iter((line,)), object(), Table]:
            self.assertEqual(day_fault(value), -1)
            self.assertIs(is_day(TABLE, value), False)
            self.assertIs(is_day(TABLE, value, False), False)

    def test_most_lines(self):
        line = (0, (1, 1), 1)
        self.assertIsNone(day_fault((line,) * 400))
        self.assertEqual(day_fault((line,) * 401), -1)
        self.assertIs(is_day(TABLE, (line,) * 400), True)

    def test_wrong_line(self):
        line = (1, (5, 2), 3)
        wrong = [(1, (5, 2)), (1, (5, 2), 3, 0), [1, (5, 2), 3], None, (3, (5, 2), 3), (-1, (5, 2), 3), (True, (5, 2), 3),
                 (1, (5, 2), 1), (1, (5, 2), 4), (1, (4, 1), 5), (1, (4, 1), 3), (1, (10, 4), 3), (1, [5, 2], 3),
                 (1, (5, 2), (3, 1)), (1, (5, 2), 3.0), (1, (1, 2), True), (1, (1, 2), False), (1, (1, 1), True),
                 (1, (MILLION + 1, 2), MILLION // 2), (1, (5, 2), None), (1, (5, 2), Rude()), (1, (5, 2), Yes()),
                 (Yes(), (5, 2), 3), (1, Yes(), 1), Rude(), Yes(), (1, (1, MILLION + 1), 0), "abc", (1, (5, 2), "3")]
        for value in wrong + odd_values():
            self.assertEqual(day_fault((value,)), 0)
            self.assertEqual(day_fault((line, line, value)), 2)
            self.assertEqual(day_fault((line, value, value)), 1)
            self.assertEqual(day_fault((line,) * 399 + (value,)), 399)
            self.assertIs(is_day(TABLE, (line, value), False), False)
            self.assertIs(is_day(TABLE, (line, value)), False)

    def test_swapped_deep_within(self):
        day = ((1, (5, 2), 3), (0, (1, 3), 0))
        for other in (True, None, [], "1", 1.0, Rude(), Yes()):
            for value in with_swapped(day, other):
                self.assertIs(is_day(TABLE, value, False), False)


class Errors(unittest.TestCase):

    def test_errors(self):
        rng = random.Random(3)
        for table in TABLES:
            day = rounded(rng, random_lines(rng, table, rng.randint(0, 9)))
            errors = kind_errors(table, day)
            totals = errors_by_total(table, errors)
            self.assertEqual(errors_of(table, day), tuple(map(told, errors)))
            self.assertEqual(totals_by(table, tuple(map(told, errors))), tuple(map(told, totals)))
            self.assertEqual(total_errors(table, day), tuple(map(told, totals)))
            course = [errors_by_total(table, kind_errors(table, day[:many])) for many in range(len(day) + 1)]
            self.assertEqual(course_of(table, day), tuple(tuple(map(told, errors)) for errors in course))
            off = [at for at in range(len(day)) if any(abs(error) >= 1 for error in course[at + 1])]
            self.assertEqual(first_off(table, day), off[0] if off else None)
            self.assertIs(is_day(table, day), not off)
            self.assertIs(is_day(table, day, True), not off)
            self.assertIs(is_day(table, day, kept=False), True)
            self.assertIs(is_day(table, day), is_kept_day(table, day))

    def test_errors_behind(self):
        rng = random.Random(4)
        for _ in range(500):
            errors = tuple(random_fraction(rng) for _ in range(rng.randint(1, 6)))
            kind = rng.randrange(len(errors))
            (_, amount, whole), = rounded(rng, ((0, random_fraction(rng)),))
            behind = list(errors)
            behind[kind] = told(exact(errors[kind]) + whole - exact(amount))
            self.assertEqual(errors_behind(errors, kind, amount, whole), tuple(behind))
        self.assertEqual(errors_behind(whole=3, amount=(5, 2), kind=0, errors=((0, 1),)), ((1, 2),))

    def test_any_size(self):
        huge = 10 ** 3999 + 1
        errors = ((1, huge), (-1, huge), (huge, 2))
        self.assertEqual(totals_by(TABLE, errors)[1], told(Fraction(1, huge) + Fraction(huge, 2)))

    def test_one_is_off(self):
        one = Table(("cup",), ((0,),))
        self.assertEqual(first_off(one, ((0, (1, 2), 1), (0, (1, 2), 1), (0, (1, 2), 1))), 1)
        self.assertIsNone(first_off(one, ((0, (1, MILLION), 1),)))
        self.assertEqual(first_off(one, ((0, (1, 2), 0), (0, (1, 2), 0))), 1)
        self.assertIsNone(first_off(Table(("cup",), ()), ((0, (1, 2), 1),) * 400))
        self.assertIsNone(first_off(one, ()))

    def test_long_day_of_unlike_bottoms(self):
        table = Table(("cup",), ((0,),) * 12)
        primes = [number for number in range(999000, 10 ** 6) if all(number % other for other in range(2, 1000))]
        day, error = [], Fraction(0)
        for at in range(400):
            bottom = primes[at % len(primes)] - 2 * (at // len(primes))
            amount = told(Fraction(bottom // 2, bottom))
            whole = 1 if error <= 0 else 0
            error += whole - exact(amount)
            day.append((0, amount, whole))
        self.assertIs(is_day(table, tuple(day)), True)
        self.assertEqual(total_errors(table, tuple(day)), (told(error),) * 12)

    def test_whole_added(self):
        rng = random.Random(5)
        for table in TABLES:
            day = rounded(rng, random_lines(rng, table, 6))
            more = rng.randint(-5, 5)
            moved = tuple((kind, told(exact(amount) + more), whole + more) for kind, amount, whole in day)
            self.assertEqual(course_of(table, moved), course_of(table, day))
            self.assertEqual(errors_of(table, moved), errors_of(table, day))
            turned = tuple((kind, told(-exact(amount)), -whole) for kind, amount, whole in day)
            self.assertEqual(errors_of(table, turned), tuple((-top, bottom) for top, bottom in errors_of(table, day)))
            self.assertIs(is_day(table, turned), is_day(table, day))

    def test_example(self):
        day = ((1, (5, 2), 3), (0, (1, 2), 0))
        self.assertEqual(course_of(day=day, table=TABLE),
                         (((0, 1), (0, 1), (0, 1)), ((1, 2), (0, 1), (1, 2)), ((0, 1), (-1, 2), (1, 2))))
        self.assertEqual(first_off(day=day + ((2, (1, 2), 0),), table=TABLE), 2)

    def test_by_name(self):
        day = ((0, (1, 2), 1),)
        self.assertEqual(errors_of(day=day, table=TABLE), ((1, 2), (0, 1), (0, 1)))
        self.assertEqual(total_errors(day=day, table=TABLE), ((1, 2), (1, 2), (0, 1)))
        self.assertEqual(totals_by(errors=((1, 2), (0, 1), (0, 1)), table=TABLE), ((1, 2), (1, 2), (0, 1)))
        self.assertIs(is_day(kept=True, value=day, table=TABLE), True)


if __name__ == "__main__":
    unittest.main()
