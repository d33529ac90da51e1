"""Promise [56], what it says of colours_within, narrowest and narrow_colours."""

import random
import unittest
from itertools import combinations, product

from centsatonce.court import is_good
from centsatonce.narrow import colours_within, narrow_colours, narrowest
from centsatonce.tables import Table
from centsatonce.wider import is_colouring, widths_of
from tests.helpers import NAMES, plain_classes, plain_totals, random_tables

TABLES = random_tables(56, 150, most_kinds=6, most_totals=6)
NESTED = Table(("cup", "jam", "tea"), ((0,), (0, 1), (0, 1, 2)))


def every_widths(table):
    """A dict from all colours to the widths of all totals."""
    found = {}
    for colours in product((1, -1), repeat=len(plain_classes(table))):
        counts = [sum(colours[number] for number in classes) for classes in plain_totals(table)]
        found[colours] = tuple((len(classes) + abs(count)) // 2 for classes, count in zip(plain_totals(table), counts))
    return found


class Narrow(unittest.TestCase):

    def test_within(self):
        rng = random.Random(1)
        seen = {True: 0, False: 0}
        for table in TABLES:
            every = every_widths(table)
            for _ in range(6):
                most = tuple(rng.randint(0, 4) for _ in table.totals)
                right = [colours for colours, widths in every.items()
                         if all(width <= number for width, number in zip(widths, most))]
                found = colours_within(table, most)
                self.assertIs(found is None, not right)
                if found is not None:
                    self.assertIn(found, right)
                    self.assertIs(is_colouring(table, found), True)
                seen[found is None] += 1
        self.assertGreater(min(seen.values()), 100)

    def test_narrowest(self):
        seen = set()
        for table in TABLES:
            every = every_widths(table)
            number = min(max(widths, default=0) for widths in every.values())
            self.assertEqual(narrowest(table), number)
            colours = narrow_colours(table)
            self.assertEqual(max(widths_of(table, colours), default=0), number)
            self.assertEqual(max(every[colours], default=0), number)
            self.assertIs(number <= 1, is_good(table))
            self.assertIs(number == 0, not plain_classes(table))
            for classes in plain_totals(table):
                self.assertGreaterEqual(2 * number, len(classes))
            seen.add(number)
        self.assertLessEqual({0, 1, 2, 3}, seen)

    def test_no_width_below_half(self):
        for table in TABLES:
            halves = tuple((len(classes) + 1) // 2 for classes in plain_totals(table))
            for at, half in enumerate(halves):
                if half:
                    most = tuple(half - 1 if at == other else 12 for other in range(len(halves)))
                    self.assertIsNone(colours_within(table, most))
            one_within_another = all(set(one) <= set(other) or set(other) <= set(one)
                                     for one, other in combinations(plain_totals(table), 2))
            if one_within_another:
                self.assertEqual(widths_of(table, colours_within(table, halves)), halves)

    def test_nested(self):
        rng = random.Random(2)
        for _ in range(40):
            sizes = sorted(rng.randint(0, 12) for _ in range(rng.randint(1, 12)))
            order = rng.sample(range(12), 12)
            table = Table(NAMES, tuple(tuple(sorted(order[:size])) for size in sizes))
            halves = tuple((len(classes) + 1) // 2 for classes in plain_totals(table))
            self.assertEqual(widths_of(table, colours_within(table, halves)), halves)
            self.assertEqual(narrowest(table), max(halves))

    def test_twelve_classes(self):
        single = tuple((kind,) for kind in range(10))
        table = Table(NAMES, single + (tuple(range(12)), (10,)))
        self.assertEqual(narrowest(table), 6)
        self.assertEqual(sum(narrow_colours(table)), 0)
        rng = random.Random(3)
        for _ in range(5):
            table = Table(NAMES, tuple(tuple(sorted(rng.sample(range(12), 6))) for _ in range(12)))
            every = every_widths(table)
            number = min(map(max, every.values()))
            self.assertEqual(narrowest(table), number)
            self.assertEqual(max(every[narrow_colours(table)]), number)
            self.assertIsNone(colours_within(table, (number - 1,) * 12))

    def test_examples(self):
        self.assertEqual(narrowest(table=NESTED), 2)
        self.assertEqual(max(widths_of(NESTED, narrow_colours(table=NESTED))), 2)
        self.assertIsNone(colours_within(most=(1, 1, 1), table=NESTED))
        self.assertIsNone(colours_within(NESTED, (0, 2, 2)))
        self.assertEqual(widths_of(NESTED, colours_within(NESTED, (1, 1, 2))), (1, 1, 2))
        empty = Table(("cup",), ((), ()))
        self.assertEqual((narrowest(empty), narrow_colours(empty), colours_within(empty, (0, 0))), (0, (), ()))
        bare = Table(("cup", "tea"), ())
        self.assertEqual((narrowest(bare), narrow_colours(bare), colours_within(bare, ())), (0, (), ()))
        self.assertEqual(narrowest(Table(("a", "b", "c"), ((0, 1), (1, 2), (0, 2)))), 2)


if __name__ == "__main__":
    unittest.main()
