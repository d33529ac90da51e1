"""Promise [41]: levels."""

import random
import unittest

from centsatonce.derivations import derived_by, is_derivation, reckonings_along
from centsatonce.levels import least_beyond, levels_of
from centsatonce.reckonings import is_beyond
from centsatonce.tables import Table
from tests.test_derivations import random_derivation
from tests.helpers import NAMES, every_table, is_good_table, plain_classes, plain_totals, random_tables

RING = Table(("a", "b", "c"), ((0, 1), (1, 2), (0, 2)))
SOME = random_tables(41, 150, most_kinds=6, most_totals=6, sizes=(0, 1, 2, 2, 2, 3))


def agree(one, other):
    return any(a == b and a in (1, -1) for a, b in zip(one, other))


def clash(one, other):
    return any(a == -b and a in (1, -1) for a, b in zip(one, other))


def plain_levels(table):
    """The levels, and whether two of the last one agree and clash."""
    every = range(len(plain_classes(table)))
    level = set()
    for total in plain_totals(table):
        level.add(tuple(int(number in total) for number in every))
        level.add(tuple(-int(number in total) for number in every))
    levels = [tuple(sorted(level))]
    while True:
        if any(agree(one, other) and clash(one, other) for one in level for other in level):
            return tuple(levels), True
        after = set(level)
        after.update(tuple(a - b for a, b in zip(one, other)) for one in level for other in level if agree(one, other))
        if after == level:
            return tuple(levels), False
        level = after
        levels.append(tuple(sorted(level)))


def plain_depths(derivation):
    depths = []
    for step in derivation:
        depths.append(0 if step[0] == "total" else 1 + max(depths[step[2]], depths[step[3]]))
    return depths


def ring_of(many):
    """A table with one ring of so many classes."""
    return Table(NAMES[:many], tuple(tuple(sorted((at, (at + 1) % many))) for at in range(many)))


class Levels(unittest.TestCase):

    def check(self, table):
        levels, torn = plain_levels(table)
        self.assertEqual(levels_of(table), levels)
        self.assertLessEqual(len(levels), 5)
        self.assertIs(torn, not is_good_table(table))
        derivation = least_beyond(table)
        if not torn:
            self.assertIsNone(derivation)
            return 0
        self.assertIs(is_derivation(table, derivation), True)
        self.assertIs(is_beyond(derived_by(table, derivation)), True)
        depths = plain_depths(derivation)
        self.assertEqual(depths[-1], len(levels))
        for reckoning, depth in zip(reckonings_along(table, derivation)[:-1], depths):
            self.assertTrue(any(reckoning in level for level in levels[:depth + 1]))
        return len(levels)

    def test_random_tables(self):
        self.assertLessEqual({0, 2, 3}, {self.check(table) for table in SOME})

    def test_all_small_tables(self):
        for table in list(every_table(3, 3)) + list(every_table(3, 2)) + list(every_table(2, 3)):
            self.check(table)

    def test_rings(self):
        found = [self.check(ring_of(many)) for many in range(3, 13)]
        self.assertEqual(found, [2, 0, 3, 0, 3, 0, 4, 0, 4, 0])

    def test_chain(self):
        totals = tuple((at, at + 1) for at in range(11)) + ((11,),)
        levels = levels_of(Table(NAMES, totals))
        self.assertEqual(len(levels), 5)
        self.assertEqual(len(levels[-1]), 157)
        self.assertIsNone(least_beyond(Table(NAMES, totals)))

    def test_no_totals(self):
        self.assertEqual(levels_of(Table(("a",), ())), ((),))
        self.assertIsNone(least_beyond(Table(("a",), ())))
        self.assertEqual(levels_of(Table(("a",), ((),))), (((),),))
        self.assertIsNone(least_beyond(Table(("a",), ((), ()))))
        self.assertEqual(levels_of(Table(("a", "b"), ((0,), ()))), (((-1,), (0,), (1,)),))
        self.assertEqual(levels_of(Table(("a", "b"), ((0,),))), (((-1,), (1,)), ((-1,), (0,), (1,))))

    def test_levels_have_what_is_derived(self):
        rng = random.Random(41)
        for table in SOME:
            if not table.totals:
                continue
            levels = levels_of(table)
            for _ in range(4):
                steps = random_derivation(rng, table, 8)
                depths = plain_depths(steps)
                for reckoning, depth in zip(reckonings_along(table, steps), depths):
                    if depth < len(levels) or is_good_table(table):
                        self.assertIn(reckoning, levels[min(depth, len(levels) - 1)])
                        self.assertFalse(is_beyond(reckoning))

    def test_by_name(self):
        self.assertEqual(len(levels_of(table=RING)), 2)
        self.assertEqual(plain_depths(least_beyond(table=RING))[-1], 2)

    def test_kept_apart_from_callers(self):
        self.assertEqual(levels_of(RING), levels_of(RING))
        self.assertEqual(least_beyond(RING), least_beyond(RING))


if __name__ == "__main__":
    unittest.main()
