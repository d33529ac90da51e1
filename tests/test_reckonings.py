"""Promise [21]: reckonings."""

import random
import unittest
from fractions import Fraction

from centsatonce.days import totals_by
from centsatonce.reckonings import agreements, clashes, class_errors, difference_of, is_beyond, is_off, is_reckoning
from centsatonce.reckonings import reckoned, total_reckoning
from centsatonce.tables import Table
from tests.helpers import Rude, Yes, exact, odd_values, plain_classes, plain_totals, random_fraction, random_tables, told

TABLES = random_tables(21, 120)
TWO = Table(("cup", "jam", "tea"), ((0, 2), (1,)))


def random_reckoning(rng, many, most=3):
    return tuple(rng.randint(-most, most) for _ in range(many))


class AnyValue(unittest.TestCase):

    def test_reckonings(self):
        rng = random.Random(1)
        for table in TABLES:
            many = len(plain_classes(table))
            self.assertIs(is_reckoning(table, random_reckoning(rng, many)), True)
            self.assertIs(is_reckoning(table, (0,) * (many + 1)), False)
            if many:
                self.assertIs(is_reckoning(table, (0,) * (many - 1)), False)
        self.assertIs(is_reckoning(value=(10 ** 40, -5), table=TWO), True)
        self.assertIs(is_reckoning(Table(("a",), ()), ()), True)

    def test_others(self):
        for value in [[1, 0], (1,), (1, 0, 0), (), (True, 0), (0, False), (1.0, 0), (0, None), ("1", "0"), "10", None, 0,
                      (0, Rude()), (Yes(), 0), Rude(), Yes(), ((1, 0),), ((1,), 0), {0: 1, 1: 0}, b"ab", range(2), (0, [])]:
            self.assertIs(is_reckoning(TWO, value), False)
        for value in odd_values():
            right = isinstance(value, tuple) and len(value) == 2 and all(type(item) is int for item in value)
            self.assertIs(is_reckoning(TWO, value), right)


class Entries(unittest.TestCase):

    def test_total_reckoning(self):
        for table in TABLES:
            for at, total in enumerate(plain_totals(table)):
                right = tuple(1 if number in total else 0 for number in range(len(plain_classes(table))))
                self.assertEqual(total_reckoning(table, at), right)
                self.assertIs(is_reckoning(table, total_reckoning(table, at)), True)
        self.assertEqual(total_reckoning(total=0, table=TWO), (1, 0))

    def test_is_beyond(self):
        for reckoning, right in (((), False), ((0,), False), ((1, -1, 0), False), ((2,), True), ((-2,), True),
                                 ((0, 1, 2), True), ((-2, 0, 0), True), ((1, 5, 1), True), ((1, -1, 1), False)):
            self.assertIs(is_beyond(reckoning), right)
        self.assertIs(is_beyond(reckoning=(0, -3)), True)

    def test_pairs(self):
        rng = random.Random(2)
        for _ in range(2000):
            many = rng.randint(0, 6)
            one, other = random_reckoning(rng, many, 2), random_reckoning(rng, many, 2)
            every = range(many)
            agree = tuple(at for at in every if (one[at], other[at]) in ((1, 1), (-1, -1)))
            clash = tuple(at for at in every if (one[at], other[at]) in ((1, -1), (-1, 1)))
            self.assertEqual(agreements(one, other), agree)
            self.assertEqual(clashes(one, other), clash)
            self.assertEqual(difference_of(one, other), tuple(one[at] - other[at] for at in every))

    def test_pairs_by_name(self):
        self.assertEqual(agreements(other=(1, 0), one=(1, 2)), (0,))
        self.assertEqual(clashes(other=(1, 0), one=(-1, 2)), (0,))
        self.assertEqual(difference_of(other=(1, 0), one=(-1, 2)), (-2, 2))

    def test_two_and_two_neither_agree_nor_clash(self):
        self.assertEqual(agreements((2, -2, 0), (2, -2, 0)), ())
        self.assertEqual(clashes((2, -2, 0), (-2, 2, 0)), ())


class Errors(unittest.TestCase):

    def test_reckoned(self):
        rng = random.Random(3)
        for table in TABLES:
            errors = tuple(random_fraction(rng, 5) for _ in table.kinds)
            sums = [sum((exact(errors[kind]) for kind in kinds), Fraction(0)) for kinds in plain_classes(table)]
            self.assertEqual(class_errors(table, errors), tuple(map(told, sums)))
            reckoning = random_reckoning(rng, len(sums))
            whole = sum((entry * one for entry, one in zip(reckoning, sums)), Fraction(0))
            self.assertEqual(reckoned(table, reckoning, errors), told(whole))
            self.assertIs(is_off(table, reckoning, errors), abs(whole) >= 1)

    def test_off_edges(self):
        one = Table(("a",), ((0,),))
        for error, right in (((1, 1), True), ((-1, 1), True), ((2, 3), False), ((-2, 3), False), ((0, 1), False),
                             ((4, 3), True), ((-4, 3), True)):
            self.assertIs(is_off(one, (1,), (error,)), right)
            self.assertIs(is_off(one, (-1,), (error,)), right)
        self.assertIs(is_off(errors=((1, 2),), reckoning=(2,), table=one), True)
        self.assertEqual(reckoned(errors=((1, 2),), reckoning=(3,), table=one), (3, 2))
        self.assertEqual(class_errors(errors=((1, 2),), table=one), ((1, 2),))

    def test_total_is_reckoned_by_its_reckoning(self):
        rng = random.Random(4)
        for table in TABLES:
            errors = tuple(random_fraction(rng, 5) for _ in table.kinds)
            found = tuple(reckoned(table, total_reckoning(table, total), errors) for total in range(len(table.totals)))
            self.assertEqual(found, totals_by(table, errors))


if __name__ == "__main__":
    unittest.main()
