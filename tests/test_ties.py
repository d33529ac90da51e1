"""Promise [27]: ties and ways."""

import random
import unittest
from itertools import permutations

from centsatonce.pieces import pieces_of
from centsatonce.tables import Table
from centsatonce.ties import has_lone, is_tie_way, tie_way, ties
from tests.helpers import Rude, Yes, deep_tuple, odd_values, plain_classes, plain_totals, random_tables, with_swapped

TABLES = random_tables(27, 150, most_kinds=5, most_totals=6, sizes=(0, 1, 2, 2, 2, 3))
CHAIN = Table(("a", "b", "c", "d"), ((2, 3), (0, 1), (1, 2), (1, 2), (0, 1, 2), (3,)))


def is_plain_way(table, classes, totals):
    """Whether plain numbers are a way."""
    if not classes or len(set(classes)) != len(classes) or len(totals) != len(classes) - 1:
        return False
    every = plain_totals(table)
    return all(set(every[total]) == {classes[at], classes[at + 1]} for at, total in enumerate(totals))


def plain_distance(table, one, other):
    """How many totals a shortest way has, by trying all rows of classes; None if there is none."""
    tied = [set(total) for total in plain_totals(table) if len(total) == 2]
    for many in range(len(plain_classes(table))):
        for row in permutations(range(len(plain_classes(table))), many + 1):
            if (row[0], row[-1]) == (one, other) and all({row[at], row[at + 1]} in tied for at in range(many)):
                return many
    return None


class Ties(unittest.TestCase):

    def test_all_of_them(self):
        for table in TABLES:
            found = [(*total, at) for at, total in enumerate(plain_totals(table)) if len(total) == 2]
            self.assertEqual(ties(table), tuple(sorted(found)))
        self.assertEqual(ties(table=CHAIN), ((0, 1, 1), (1, 2, 2), (1, 2, 3), (2, 3, 0)))
        merged = Table(("a", "b", "c"), ((0, 1, 2), (1, 2)))
        self.assertEqual(ties(merged), ((0, 1, 0),))
        self.assertEqual(ties(Table(("a",), ())), ())

    def test_shortest_ways(self):
        for table in TABLES:
            every = range(len(plain_classes(table)))
            for one in every:
                for other in every:
                    right = plain_distance(table, one, other)
                    way = tie_way(table, one, other)
                    if right is None:
                        self.assertIsNone(way)
                        continue
                    classes, totals = way
                    self.assertEqual((classes[0], classes[-1], len(totals)), (one, other, right))
                    self.assertTrue(is_plain_way(table, classes, totals))
                    self.assertIs(is_tie_way(table, way), True)
        self.assertEqual(tie_way(table=CHAIN, other=0, one=1), ((1, 0), (1,)))
        self.assertEqual(tie_way(CHAIN, 2, 2), ((2,), ()))

    def test_has_lone(self):
        for table in TABLES:
            for piece in pieces_of(table):
                right = any(len(total) == 1 and total[0] in piece for total in plain_totals(table))
                self.assertIs(has_lone(table, piece), right)
        self.assertIs(has_lone(piece=(0, 1, 2, 3), table=CHAIN), True)
        apart = Table(("a", "b", "c", "d"), ((0, 1), (2,), (1,)[:0]))
        self.assertEqual((has_lone(apart, (0,)), has_lone(apart, (1,))), (True, True))
        self.assertIs(has_lone(Table(("a", "b", "c"), ((0, 1), (1, 2))), (0, 1, 2)), False)
        two = Table(("a", "b", "c", "d"), ((0, 1), (0, 2), (3,)))
        self.assertEqual([has_lone(two, piece) for piece in pieces_of(two)], [False, True])


class AnyValue(unittest.TestCase):

    def test_random_rows(self):
        rng = random.Random(1)
        seen = set()
        for table in TABLES:
            many = len(plain_classes(table))
            for _ in range(60):
                classes = tuple(rng.randrange(many + 1) for _ in range(rng.randint(0, 3)))
                length = max(0, len(classes) - rng.choice((0, 1, 1, 1, 1)))
                totals = tuple(rng.randrange(len(table.totals) + 1) for _ in range(length))
                inside = all(number < many for number in classes) and all(total < len(table.totals) for total in totals)
                right = inside and is_plain_way(table, classes, totals)
                self.assertIs(is_tie_way(table, (classes, totals)), right)
                seen.add((right, len(totals)))
        self.assertLessEqual({(True, 0), (True, 1), (False, 0), (False, 1), (False, 2)}, seen)

    def test_all_rows_of_three(self):
        found = 0
        for table in TABLES[:60]:
            every = range(len(table.totals))
            for classes in permutations(range(len(plain_classes(table))), 3):
                for one in every:
                    for other in every:
                        right = is_plain_way(table, classes, (one, other))
                        self.assertIs(is_tie_way(table, (classes, (one, other))), right)
                        found += right
        self.assertGreater(found, 30)

    def test_other_values(self):
        way = ((0, 1, 2, 3), (1, 3, 0))
        self.assertIs(is_tie_way(value=way, table=CHAIN), True)
        for other in (True, False, None, 1.0, "1", [], Rude(), Yes(), -1, 9, 10 ** 30, (0,), deep_tuple(2000)):
            for value in with_swapped(way, other):
                self.assertIs(is_tie_way(CHAIN, value), False)
        for value in [(), ((), ()), ((0,),), ((0,), (), ()), ((0,), [])] + odd_values():
            self.assertIs(is_tie_way(CHAIN, value), False)
        self.assertIs(is_tie_way(CHAIN, ((0,), ())), True)
        self.assertIs(is_tie_way(CHAIN, ((4,), ())), False)
        self.assertIs(is_tie_way(CHAIN, ((False,), ())), False)
        self.assertIs(is_tie_way(CHAIN, ((0, 1, 0), (1, 1))), False)
        self.assertIs(is_tie_way(CHAIN, ((0, 1), (True,))), False)
        self.assertIs(is_tie_way(CHAIN, ((0, 1), (4,))), False)


if __name__ == "__main__":
    unittest.main()
