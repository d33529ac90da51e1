"""Promise [55], what it says of parts, with [53]."""

import random
import unittest
from itertools import combinations, permutations

from centsatonce.tables import Table
from centsatonce.wideparts import are_parts, parts_of_total
from tests.helpers import NAMES, Rude, Yes, deep_tuple, odd_values, plain_classes, plain_totals, random_tables, with_swapped

TABLES = random_tables(55, 120, most_kinds=7, most_totals=4)
FIVE = Table(("a", "b", "c", "d", "e"), ((0, 1, 2, 3), (0,), (1,), (2,), (4,), ()))
COLOURS = (1, -1, 1, 1, -1)


def random_colours(rng, table):
    return tuple(rng.choice((1, -1)) for _ in plain_classes(table))


def plain_parts(table, colours, total):
    """All parts of a total, each as a frozenset, by joining classes in all ways."""
    def put(numbers):
        if not numbers:
            return [[]]
        first, found = numbers[0], []
        for rest in put(numbers[1:]):
            found.append([(first,)] + rest)
        for other in numbers[1:]:
            if colours[other] != colours[first]:
                left = [number for number in numbers[1:] if number != other]
                found.extend([(first, other)] + rest for rest in put(left))
        return found
    return {frozenset(parts) for parts in put(list(plain_totals(table)[total]))}


class Parts(unittest.TestCase):

    def test_as_few_as_can_be(self):
        rng = random.Random(1)
        for table in TABLES:
            colours = random_colours(rng, table)
            for total, classes in enumerate(plain_totals(table)):
                parts = parts_of_total(table, colours, total)
                self.assertIs(are_parts(table, colours, total, parts), True)
                every = plain_parts(table, colours, total)
                self.assertIn(frozenset(parts), every)
                self.assertEqual(len(parts), min(map(len, every)))
                whites = sum(colours[number] == 1 for number in classes)
                self.assertEqual(len(parts), max(whites, len(classes) - whites))
                for part in parts:
                    self.assertEqual(len({colours[number] for number in part}), len(part))

    def test_all_parts_in_any_sequence(self):
        rng = random.Random(2)
        for table in TABLES[:60]:
            colours = random_colours(rng, table)
            for total, classes in enumerate(plain_totals(table)):
                every = plain_parts(table, colours, total)
                lots = [lot for many in (1, 2) for lot in combinations(classes, many)]
                for many in range(min(3, len(lots)) + 1):
                    for parts in permutations(lots, many):
                        right = frozenset(parts) in every
                        self.assertIs(are_parts(table, colours, total, parts), right)

    def test_examples(self):
        table = Table(("cup", "jam", "tea"), ((0,), (0, 1), (0, 1, 2)))
        self.assertEqual(sorted(map(len, parts_of_total(table, (1, -1, 1), 2))), [1, 2])
        self.assertEqual(len(parts_of_total(total=2, colours=(1, 1, 1), table=table)), 3)
        self.assertEqual(parts_of_total(FIVE, COLOURS, 5), ())
        self.assertEqual(parts_of_total(FIVE, COLOURS, 4), ((4,),))
        self.assertIs(are_parts(value=(), total=5, colours=COLOURS, table=FIVE), True)

    def test_twelve_classes(self):
        table = Table(NAMES, (tuple(range(12)),) + tuple((kind,) for kind in range(11)))
        for whites in range(13):
            colours = (1,) * whites + (-1,) * (12 - whites)
            parts = parts_of_total(table, colours, 0)
            self.assertEqual(len(parts), max(whites, 12 - whites))
            self.assertIs(are_parts(table, colours, 0, parts), True)

    def test_errors_of_parts_behind_kept_signed_errors(self):
        rng = random.Random(3)
        for table in TABLES:
            colours = random_colours(rng, table)
            signed = [rng.randint(0, 99) - 50 for _ in colours]
            low, high = min(signed + [0]), max(signed + [0])
            if high - low >= 100:
                continue
            for total in range(len(table.totals)):
                for part in parts_of_total(table, colours, total):
                    self.assertLess(abs(sum(colours[number] * signed[number] for number in part)), 100)


class AnyValue(unittest.TestCase):

    def test_nearly_parts(self):
        right = ((0, 1), (2,), (3,))
        self.assertIs(are_parts(FIVE, COLOURS, 0, right), True)
        for value in permutations(right):
            self.assertIs(are_parts(FIVE, COLOURS, 0, value), True)
        for value in [((0, 1), (2,)), ((0, 1), (2, 3)), ((0, 1), (2,), (3,), ()), ((0, 1), (2,), (3,), (4,)),
                      ((1, 0), (2,), (3,)), ((0, 1), (2,), (3,), (3,)), ((0, 1), (0,), (2,), (3,)), ((0, 1, 2), (3,)),
                      ((0,), (1,), (2, 3)), ((0, 1), (2,), [3]), [(0, 1), (2,), (3,)], ((0, 0), (1,), (2,), (3,)),
                      ((0, 1), 2, 3), (0, 1, 2, 3), (), ((),), ((0, 1), (2,), (3, 4)), ((0, 4), (1,), (2,), (3,)),
                      ((0, 1), (2,), (5,)), ((0, 1), (2,), (-2,)), ((0, 1), (2,), (True,))]:
            self.assertIs(are_parts(FIVE, COLOURS, 0, value), False)
        self.assertIs(are_parts(FIVE, COLOURS, 0, ((0,), (1,), (2,), (3,))), True)
        self.assertIs(are_parts(FIVE, COLOURS, 0, ((0,), (1, 2), (3,))), True)
        self.assertIs(are_parts(FIVE, COLOURS, 5, ()), True)
        self.assertIs(are_parts(FIVE, COLOURS, 5, ((),)), False)
        self.assertIs(are_parts(FIVE, COLOURS, 5, ((0,),)), False)
        self.assertIs(are_parts(FIVE, COLOURS, 1, ((False,),)), False)
        self.assertIs(are_parts(FIVE, COLOURS, 2, ((True,),)), False)

    def test_other_values(self):
        right = ((0, 1), (2,), (3,))
        for other in (True, False, None, 1.0, "1", [], Rude(), Yes(), -1, 9, 10 ** 30, (0,), deep_tuple(3000)):
            for value in with_swapped(right, other):
                self.assertIs(are_parts(FIVE, COLOURS, 0, value), False)
        for value in odd_values():
            for total in range(5):
                self.assertIs(are_parts(FIVE, COLOURS, total, value), False)
                self.assertIs(are_parts(FIVE, COLOURS, total, (value,)), False)


if __name__ == "__main__":
    unittest.main()
