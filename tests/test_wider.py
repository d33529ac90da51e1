"""Promise [53]: widths."""

import random
import unittest
from fractions import Fraction
from itertools import product

from centsatonce.pieces import pieces_of
from centsatonce.tables import Table
from centsatonce.wider import bound_of, is_colouring, whites_and_blacks, width_of, widths_of
from tests.helpers import NAMES, Rude, Yes, deep_tuple, odd_values, plain_classes, plain_totals, random_tables, with_swapped

TABLES = random_tables(53, 150, most_kinds=7, most_totals=5)
NESTED = Table(("cup", "jam", "tea"), ((0,), (0, 1), (0, 1, 2)))


def random_colours(rng, table):
    return tuple(rng.choice((1, -1)) for _ in plain_classes(table))


class Widths(unittest.TestCase):

    def test_counts(self):
        rng = random.Random(1)
        for table in TABLES:
            colours = random_colours(rng, table)
            widths = []
            for total, classes in enumerate(plain_totals(table)):
                whites = sum(colours[number] == 1 for number in classes)
                self.assertEqual(whites_and_blacks(table, colours, total), (whites, len(classes) - whites))
                widths.append(max(whites, len(classes) - whites))
                self.assertEqual(width_of(table, colours, total), widths[-1])
            self.assertEqual(widths_of(table, colours), tuple(widths))

    def test_bounds(self):
        rng = random.Random(2)
        for table in TABLES:
            colours = random_colours(rng, table)
            weights = tuple(rng.randint(-100, 100) for _ in colours)
            expected = 0
            for piece in pieces_of(table):
                sums = {1: 0, -1: 0}
                for number in piece:
                    if weights[number]:
                        sums[1 if weights[number] * colours[number] > 0 else -1] += abs(weights[number])
                expected += max(sums.values())
            self.assertEqual(bound_of(table, colours, weights), expected)
            self.assertEqual(bound_of(table, colours, tuple(-weight for weight in weights)), expected)
            for total, classes in enumerate(plain_totals(table)):
                ones = tuple(int(number in classes) for number in range(len(colours)))
                self.assertEqual(bound_of(table, colours, ones), width_of(table, colours, total))

    def test_no_weighed_error_reaches_its_bound(self):
        # The points of a piece, and 0, less than 1 apart: no more of it can be told without a window.
        rng = random.Random(3)
        for table in TABLES[:60]:
            colours = random_colours(rng, table)
            weights = tuple(rng.randint(-3, 3) for _ in colours)
            bound = bound_of(table, colours, weights)
            for _ in range(20):
                weighed = Fraction(0)
                for piece in pieces_of(table):
                    low = Fraction(rng.randint(-9, 0), 10)
                    points = {number: low + Fraction(rng.randint(0, 9), 10) for number in piece}
                    weighed += sum(weights[number] * colours[number] * point for number, point in points.items())
                self.assertTrue(abs(weighed) < bound or weighed == bound == 0)

    def test_examples(self):
        self.assertEqual((widths_of(NESTED, (1, -1, 1)), bound_of(NESTED, (1, -1, 1), (2, 1, -1))), ((1, 1, 2), 2))
        self.assertEqual(whites_and_blacks(total=2, colours=(1, -1, 1), table=NESTED), (2, 1))
        self.assertEqual(width_of(total=2, colours=(-1, -1, 1), table=NESTED), 2)
        self.assertEqual(widths_of(colours=(-1, -1, -1), table=NESTED), (1, 2, 3))
        self.assertEqual(bound_of(weights=(0, 0, 0), colours=(1, 1, 1), table=NESTED), 0)
        empty = Table(("cup",), ((),))
        self.assertEqual((widths_of(empty, ()), bound_of(empty, (), ()), whites_and_blacks(empty, (), 0)), ((0,), 0, (0, 0)))
        two = Table(("a", "b"), ((0,), (1,)))
        self.assertEqual(bound_of(two, (1, -1), (100, 100)), 200)
        self.assertEqual(bound_of(Table(("a", "b"), ((0, 1), (1,))), (1, -1), (100, 100)), 100)
        self.assertEqual(widths_of(Table(("a", "b", "c"), ((0, 1, 2), (0, 1))), (1, 1)), (2, 1))


class AnyValue(unittest.TestCase):

    def test_colourings(self):
        for value in product((1, -1), repeat=3):
            self.assertIs(is_colouring(NESTED, value), True)
        self.assertIs(is_colouring(value=(1, 1, 1), table=NESTED), True)
        self.assertIs(is_colouring(Table(NAMES, ()), ()), True)
        self.assertIs(is_colouring(Table(NAMES[:2], ((0, 1),)), (1,)), True)
        self.assertIs(is_colouring(Table(NAMES[:2], ((0, 1),)), (1, 1)), False)

    def test_other_values(self):
        right = (1, -1, 1)
        for value in odd_values() + [(), (1, -1), (1, -1, 1, 1), (1, -1, 0), (1, -1, 2), [1, -1, 1], "+-+", 1]:
            self.assertIs(is_colouring(NESTED, value), False)
        for other in (True, False, None, 1.0, -1.0, "1", [], Rude(), Yes(), 7, -2, 0, (1,), deep_tuple(2000)):
            for value in with_swapped(right, other):
                self.assertIs(is_colouring(NESTED, value), False)


if __name__ == "__main__":
    unittest.main()
