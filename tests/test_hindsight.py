"""Promises [59], [60] and [61]: hindsight."""

import random
import unittest
from fractions import Fraction
from itertools import product

from centsatonce.court import Blocks, court, is_good
from centsatonce.days import choices
from centsatonce.goals import is_goal_day, near_goal, total_wholes
from centsatonce.hindsight import end_range, goal_bar, goal_day, greater_day, highest_day, lesser_day, lowest_day, range_papers
from centsatonce.hindsight import signed_sums
from centsatonce.reasons import is_bar, is_limit_paper
from centsatonce.tables import Table
from tests.helpers import NAMES, exact, is_kept_day, plain_classes, raised, random_lines, random_tables, told
from tests.test_window import some_blocks

GOOD = [table for table in random_tables(59, 260, most_kinds=5, most_totals=5, sizes=(0, 1, 2, 2, 2)) if is_good(table)]
TABLE = Table(("cup", "tea"), ((0,), (0, 1)))
LINES = ((0, (1, 2)), (1, (1, 3)), (0, (1, 2)))
LINE = Table(NAMES, tuple((at, at + 1) for at in range(11)) + ((11,),))
NO_GOAL = ("Refused", {"word": "goal"})


def all_days(lines):
    return [tuple((kind, amount, whole) for (kind, amount), whole in zip(lines, wholes))
            for wholes in product(*[choices(amount) for _, amount in lines])]


def asked_days(table, lines, goal, kept):
    """All asked days, by trying all roundings."""
    found = []
    for day in all_days(lines):
        sums = [sum(whole for kind, _, whole in day if kind in total) for total in table.totals]
        if all(pair is None or pair[0] <= one <= pair[1] for pair, one in zip(goal, sums)):
            if not kept or is_kept_day(table, day):
                found.append(day)
    return found


def plain_sums(table, blocks, day):
    """The signed sums, by the words of [61]."""
    classes = plain_classes(table)
    found = []
    for at, (kind, _, whole) in enumerate(day):
        own = [number for number, kinds in enumerate(classes) if kind in kinds]
        if own:
            sums = [line[2] for line in day[:at + 1] if line[0] in classes[own[0]]]
            found.append(blocks.colours[own[0]] * sum(sums))
        else:
            found.append(whole)
    return tuple(found)


def random_goal(rng, table, lines):
    """A goal that tells nothing, the nearest wholes, or others, for each total."""
    goal = []
    for total, near in zip(table.totals, near_goal(table, lines)):
        least = near[0] + rng.randint(-1, 2)
        goal.append(rng.choice((None, None, near, (least, least), (least, least + rng.randint(-1, 2)))))
    return tuple(goal)


def cases(seed, many=2, most=6):
    """Tables, blocks, lines, goals and both values of kept, with all asked days."""
    rng = random.Random(seed)
    for table in GOOD:
        for _ in range(many):
            blocks = some_blocks(rng, table)
            lines = random_lines(rng, table, rng.randint(0, most), 4)
            goal = random_goal(rng, table, lines)
            for kept in (True, False):
                yield table, blocks, lines, goal, kept, asked_days(table, lines, goal, kept)


class DayOrBar(unittest.TestCase):

    def test_all_roundings(self):
        seen = {}
        for table, blocks, lines, goal, kept, days in cases(1):
            day = goal_day(table, blocks, lines, goal, kept)
            bar = goal_bar(table, blocks, lines, goal, kept)
            if days:
                self.assertIn(day, days)
                self.assertIs(is_goal_day(table, lines, goal, day, kept), True)
                self.assertIsNone(bar)
            else:
                self.assertIsNone(day)
                self.assertIs(is_bar(table, lines, goal, bar, kept), True)
            seen[kept, bool(days)] = seen.get((kept, bool(days)), 0) + 1
        self.assertEqual(len(seen), 4)
        self.assertGreater(min(seen.values()), 40, seen)

    def test_no_bar_where_there_is_a_day(self):
        # What is bar by the words of [58] for one goal is none where some day is asked.
        for table, blocks, lines, goal, kept, days in cases(2, 1, 4):
            bar = goal_bar(table, blocks, lines, goal, kept)
            for other, near in ((goal, False), (near_goal(table, lines), True), ((None,) * len(table.totals), True)):
                if bar is not None and asked_days(table, lines, other, kept):
                    self.assertIs(is_bar(table, lines, other, bar, kept), False)

    def test_goals_that_tell_nothing(self):
        rng = random.Random(3)
        for table in GOOD:
            lines = random_lines(rng, table, rng.randint(0, 10))
            goal = (None,) * len(table.totals)
            day = goal_day(table, court(table), lines, goal)
            self.assertTrue(is_kept_day(table, day))
            self.assertEqual(tuple(line[:2] for line in day), lines)
            self.assertIsNone(goal_bar(table, court(table), lines, goal))

    def test_examples(self):
        blocks = court(TABLE)
        self.assertEqual((goal_day(TABLE, blocks, LINES, (None, (2, 2))), goal_day(TABLE, blocks, LINES, ((2, 2), None))),
                         (((0, (1, 2), 0), (1, (1, 3), 1), (0, (1, 2), 1)), None))
        day = goal_day(goal=((2, 2), None), lines=LINES, blocks=blocks, table=TABLE, kept=False)
        self.assertIs(is_goal_day(TABLE, LINES, ((2, 2), None), day, False), True)
        bar = goal_bar(kept=True, goal=((2, 2), None), lines=LINES, blocks=blocks, table=TABLE)
        self.assertIs(is_bar(TABLE, LINES, ((2, 2), None), bar), True)
        self.assertIsNone(goal_bar(TABLE, blocks, LINES, ((2, 2), None), False))
        # Without a word on it, days are to be kept.
        self.assertIs(is_bar(TABLE, LINES, ((2, 2), None), goal_bar(TABLE, blocks, LINES, ((2, 2), None))), True)

    def test_goals_for_totals_without_lines(self):
        table = Table(("a", "b"), ((0,), (), (1,)))
        blocks = court(table)
        lines = ((0, (1, 2)),)
        for goal, right in (((None, (0, 0), (0, 0)), True), ((None, (1, 5), None), False), ((None, (-5, -1), None), False),
                            ((None, None, (1, 1)), False), ((None, None, (-1, 0)), True), (((1, 0), None, None), False),
                            ((None, (1, 0), None), False), ((None, (1, -1), None), False), ((None, None, (2, -2)), False)):
            for kept in (True, False):
                self.assertIs(goal_day(table, blocks, lines, goal, kept) is not None, right)
                bar = goal_bar(table, blocks, lines, goal, kept)
                self.assertIs(bar is None, right)
                self.assertIs(is_bar(table, lines, goal, bar, kept), not right)

    def test_four_hundred(self):
        rng = random.Random(4)
        tables = [LINE, Table(NAMES, ((0, 1),) * 6 + ((1, 2),) * 6), Table(NAMES[:3], ((0, 1), (1, 2), (0,), (2,)))]
        for table in tables:
            blocks = court(table)
            lines = tuple((rng.randrange(len(table.kinds)), told(Fraction(rng.randint(-99, 99), rng.choice((2, 3, 7, 11)))))
                          for _ in range(400))
            near = near_goal(table, lines)
            nothing = (None,) * len(table.totals)
            for goal in (nothing, near, tuple((high, high) for low, high in near), tuple((low, low) for low, high in near),
                         ((near[0][1] + 1,) * 2,) + nothing[1:], ((10 ** 9, 10 ** 9),) + nothing[1:]):
                for kept in (True, False):
                    day = goal_day(table, blocks, lines, goal, kept)
                    bar = goal_bar(table, blocks, lines, goal, kept)
                    self.assertIs(is_goal_day(table, lines, goal, day, kept), bar is None)
                    self.assertIs(is_bar(table, lines, goal, bar, kept), day is None)
            low, high = end_range(table, blocks, lines, nothing, 0, False)
            papers = range_papers(table, blocks, lines, nothing, 0, False)
            self.assertIs(is_limit_paper(table, lines, nothing, 0, 1, high, papers[1], False), True)
            self.assertIs(is_limit_paper(table, lines, nothing, 0, -1, -low, papers[0], False), True)


class Ranges(unittest.TestCase):

    def test_all_roundings(self):
        wide = 0
        for table, blocks, lines, goal, kept, days in cases(5):
            for total in range(len(table.totals)):
                if not days:
                    self.assertEqual(raised(end_range, table, blocks, lines, goal, total, kept), NO_GOAL)
                    self.assertEqual(raised(range_papers, table, blocks, lines, goal, total, kept), NO_GOAL)
                    continue
                sums = {total_wholes(table, day)[total] for day in days}
                low, high = end_range(table, blocks, lines, goal, total, kept)
                self.assertEqual(sums, set(range(low, high + 1)))
                falling, rising = range_papers(table, blocks, lines, goal, total, kept)
                self.assertIs(is_limit_paper(table, lines, goal, total, -1, -low, falling, kept), True)
                self.assertIs(is_limit_paper(table, lines, goal, total, 1, high, rising, kept), True)
                wide += high > low + 1
        self.assertGreater(wide, 30)

    def test_examples(self):
        blocks = court(TABLE)
        self.assertEqual(end_range(TABLE, blocks, LINES, (None, None), 1), (1, 2))
        self.assertEqual(end_range(total=1, goal=(None, None), lines=LINES, blocks=blocks, table=TABLE, kept=False), (0, 3))
        falling, rising = range_papers(total=1, goal=(None, None), lines=LINES, blocks=blocks, table=TABLE, kept=True)
        self.assertIs(is_limit_paper(TABLE, LINES, (None, None), 1, -1, -1, falling), True)
        self.assertIs(is_limit_paper(TABLE, LINES, (None, None), 1, 1, 2, rising), True)
        self.assertEqual(range_papers(TABLE, blocks, LINES, (None, None), 1), (falling, rising))
        empty = Table(("a",), ((), (0,)))
        self.assertEqual(end_range(empty, court(empty), (), (None, None), 0), (0, 0))
        self.assertEqual(end_range(empty, court(empty), (), (None, None), 1), (0, 0))
        self.assertEqual(raised(end_range, empty, court(empty), (), ((1, 1), None), 1), NO_GOAL)


class TwoDays(unittest.TestCase):

    def test_signed_sums(self):
        rng = random.Random(6)
        for table in GOOD:
            blocks = some_blocks(rng, table)
            for day in all_days(random_lines(rng, table, rng.randint(0, 5)))[:4]:
                self.assertEqual(signed_sums(table, blocks, day), plain_sums(table, blocks, day))

    def test_lesser_and_greater(self):
        rng = random.Random(7)
        many = 0
        for table, blocks, lines, goal, kept, days in cases(8):
            for _ in range(min(4, len(days))):
                one, other = rng.choice(days), rng.choice(days)
                sums = list(zip(plain_sums(table, blocks, one), plain_sums(table, blocks, other)))
                lesser, greater = lesser_day(table, blocks, one, other), greater_day(table, blocks, one, other)
                self.assertEqual(plain_sums(table, blocks, lesser), tuple(map(min, sums)))
                self.assertEqual(plain_sums(table, blocks, greater), tuple(map(max, sums)))
                self.assertIn(lesser, days)
                self.assertIn(greater, days)
                many += len({one, other, lesser, greater}) == 4
        self.assertGreater(many, 20)

    def test_lowest_and_highest(self):
        for table, blocks, lines, goal, kept, days in cases(9):
            if not days:
                self.assertEqual(raised(lowest_day, table, blocks, lines, goal, kept), NO_GOAL)
                self.assertEqual(raised(highest_day, table, blocks, lines, goal, kept), NO_GOAL)
                continue
            sums = list(zip(*[plain_sums(table, blocks, day) for day in days]))
            lowest, highest = [call(table, blocks, lines, goal, kept) for call in (lowest_day, highest_day)]
            self.assertIn(lowest, days)
            self.assertIn(highest, days)
            self.assertEqual(plain_sums(table, blocks, lowest), tuple(map(min, sums)))
            self.assertEqual(plain_sums(table, blocks, highest), tuple(map(max, sums)))

    def test_examples(self):
        blocks = court(TABLE)
        self.assertEqual(highest_day(TABLE, blocks, LINES, (None, None)), ((0, (1, 2), 1), (1, (1, 3), 0), (0, (1, 2), 0)))
        self.assertEqual(lowest_day(goal=(None, None), lines=LINES, blocks=blocks, table=TABLE, kept=True),
                         ((0, (1, 2), 0), (1, (1, 3), 1), (0, (1, 2), 1)))
        day = ((0, (1, 2), 1), (1, (1, 3), 1), (0, (1, 2), 0))
        self.assertEqual(signed_sums(day=day, blocks=blocks, table=TABLE), (1, -1, 1))
        self.assertEqual(signed_sums(TABLE, Blocks((-1, 1), ((0, 1),)), day), (-1, 1, -1))
        other = ((0, (1, 2), 0), (1, (1, 3), 0), (0, (1, 2), 1))
        self.assertEqual(lesser_day(other=other, one=day, blocks=blocks, table=TABLE),
                         ((0, (1, 2), 0), (1, (1, 3), 1), (0, (1, 2), 1)))
        self.assertEqual(greater_day(other=other, one=day, blocks=blocks, table=TABLE),
                         ((0, (1, 2), 1), (1, (1, 3), 0), (0, (1, 2), 0)))
        self.assertEqual(highest_day(table=TABLE, blocks=blocks, lines=(), goal=((0, 0), (-1, 1)), kept=False), ())
        free = Table(("a", "b"), ((0,),))
        self.assertEqual(signed_sums(free, Blocks((-1,), ((0,),)), ((1, (7, 2), 4), (0, (1, 2), 1), (1, (7, 2), 3))), (4, -1, 3))

    def test_other_colours_turn_lowest_and_highest(self):
        turned = Blocks((-1, 1), ((0, 1),))
        self.assertEqual(highest_day(TABLE, turned, LINES, (None, None)), lowest_day(TABLE, court(TABLE), LINES, (None, None)))

    def test_long_amounts(self):
        rng = random.Random(10)
        lines = tuple((rng.randrange(12), told(Fraction(rng.randint(-10 ** 6, 10 ** 6), rng.randint(1, 10 ** 6))))
                      for _ in range(120))
        blocks = court(LINE)
        for day in (lowest_day(LINE, blocks, lines, (None,) * 12), highest_day(LINE, blocks, lines, (None,) * 12)):
            errors = {}
            for kind, amount, whole in day:
                errors[kind] = errors.get(kind, Fraction(0)) + whole - exact(amount)
                self.assertTrue(all(abs(sum(errors.get(own, 0) for own in total)) < 1 for total in LINE.totals))


if __name__ == "__main__":
    unittest.main()
