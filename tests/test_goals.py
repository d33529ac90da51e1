"""Promise [57]: goals."""

import random
import unittest
from fractions import Fraction
from math import ceil, floor

from centsatonce.days import total_errors
from centsatonce.goals import is_goal_day, near_goal, total_wholes
from centsatonce.tables import Table
from tests.helpers import Rude, Yes, exact, is_kept_day, odd_values, random_lines, random_tables, rounded, with_swapped

TABLES = random_tables(57, 200, most_kinds=4, most_totals=4)
TABLE = Table(("cup", "tea"), ((0,), (0, 1)))
LINES = ((0, (1, 2)), (1, (1, 3)), (0, (1, 2)))
DAY = ((0, (1, 2), 0), (1, (1, 3), 1), (0, (1, 2), 1))
FREE = (None, None)


def sums_of(table, day):
    return [sum(whole for kind, _, whole in day if kind in total) for total in table.totals]


class Sums(unittest.TestCase):

    def test_total_wholes(self):
        rng = random.Random(1)
        for table in TABLES:
            day = rounded(rng, random_lines(rng, table, rng.randint(0, 8)))
            self.assertEqual(total_wholes(table, day), tuple(sums_of(table, day)))
        self.assertEqual(total_wholes(day=DAY, table=TABLE), (1, 2))
        self.assertEqual(total_wholes(TABLE, ()), (0, 0))

    def test_near_goal(self):
        rng = random.Random(2)
        for table in TABLES:
            lines = random_lines(rng, table, rng.randint(0, 8))
            right = []
            for total in table.totals:
                amount = sum((exact(one) for kind, one in lines if kind in total), Fraction(0))
                right.append((floor(amount), ceil(amount)))
            self.assertEqual(near_goal(table, lines), tuple(right))
        self.assertEqual(near_goal(lines=LINES, table=TABLE), ((1, 1), (1, 2)))
        self.assertEqual(near_goal(TABLE, ((0, (-1, 3)),)), ((-1, 0), (-1, 0)))

    def test_small_errors_exactly_if_the_near_goal_is_met(self):
        rng = random.Random(3)
        seen = set()
        for table in TABLES:
            lines = random_lines(rng, table, rng.randint(0, 4))
            day = rounded(rng, lines)
            small = all(abs(exact(error)) < 1 for error in total_errors(table, day))
            self.assertIs(is_goal_day(table, lines, near_goal(table, lines), day, False), small)
            seen.add(small)
        self.assertEqual(len(seen), 2)


class GoalDays(unittest.TestCase):

    def test_against_plain_reckoning(self):
        rng = random.Random(4)
        seen = set()
        for table in TABLES:
            for _ in range(4):
                lines = random_lines(rng, table, rng.randint(0, 4), 4)
                day = rounded(rng, lines)
                goal = tuple(None if rng.random() < 0.5 else tuple(sorted((whole + rng.randint(-2, 1), whole + rng.randint(-1, 2))))
                             for whole in sums_of(table, day))
                meets = all(pair is None or pair[0] <= whole <= pair[1] for pair, whole in zip(goal, sums_of(table, day)))
                kept = is_kept_day(table, day)
                self.assertIs(is_goal_day(table, lines, goal, day), meets and kept)
                self.assertIs(is_goal_day(table, lines, goal, day, True), meets and kept)
                self.assertIs(is_goal_day(table, lines, goal, day, kept=False), meets)
                seen.add((meets, kept))
        self.assertEqual(len(seen), 4)

    def test_edges_of_a_pair(self):
        for pair, right in (((2, 2), True), ((2, 5), True), ((-9, 2), True), ((3, 9), False), ((-9, 1), False),
                            ((3, 1), False), ((2, 1), False), (None, True)):
            self.assertIs(is_goal_day(TABLE, LINES, (None, pair), DAY), right)
            self.assertIs(is_goal_day(TABLE, LINES, (pair, pair), DAY), right and pair in ((-9, 2), None))
        self.assertIs(is_goal_day(kept=True, value=DAY, goal=FREE, lines=LINES, table=TABLE), True)

    def test_just_these_lines(self):
        self.assertIs(is_goal_day(TABLE, LINES, FREE, DAY), True)
        self.assertIs(is_goal_day(TABLE, LINES, FREE, DAY[:2]), False)
        self.assertIs(is_goal_day(TABLE, LINES, FREE, DAY + DAY[:1], False), False)
        self.assertIs(is_goal_day(TABLE, LINES, FREE, (), False), False)
        self.assertIs(is_goal_day(TABLE, (), FREE, ()), True)
        self.assertIs(is_goal_day(TABLE, LINES, FREE, (DAY[1], DAY[0], DAY[2]), False), False)
        self.assertIs(is_goal_day(TABLE, LINES, FREE, (DAY[0], (0, (1, 3), 1), DAY[2]), False), False)
        self.assertIs(is_goal_day(TABLE, LINES, FREE, (DAY[0], (1, (2, 3), 1), DAY[2]), False), False)

    def test_kept_or_not(self):
        day = ((0, (1, 2), 1), (1, (1, 3), 1), (0, (1, 2), 0))
        self.assertIs(is_goal_day(TABLE, LINES, FREE, day), False)
        self.assertIs(is_goal_day(TABLE, LINES, FREE, day, False), True)

    def test_limit(self):
        lines = ((0, (1, 1)),) * 400
        self.assertIs(is_goal_day(TABLE, lines, FREE, ((0, (1, 1), 1),) * 400), True)
        self.assertIs(is_goal_day(TABLE, lines + lines[:1], FREE, ((0, (1, 1), 1),) * 401), False)

    def test_other_values(self):
        for other in (True, None, [], 1.0, "1", 9, Rude(), Yes()):
            for value in with_swapped(DAY, other):
                self.assertIs(is_goal_day(TABLE, LINES, FREE, value, False), False)
                self.assertIs(is_goal_day(TABLE, LINES, FREE, value), False)
        for value in odd_values():
            self.assertIs(is_goal_day(TABLE, LINES, FREE, value, False), False)


if __name__ == "__main__":
    unittest.main()
