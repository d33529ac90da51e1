"""Promise [58], and of [60] what it says of is_limit_paper."""

import random
import unittest
from fractions import Fraction
from itertools import product

from centsatonce.court import court
from centsatonce.days import choices
from centsatonce.goals import is_goal_day, total_wholes
from centsatonce.reasons import is_bar, is_limit_paper, reason_bound, reason_weights
from centsatonce.tables import Table
from tests.helpers import Rude, Yes, deep_tuple, exact, odd_values, random_lines, random_tables, with_swapped

TABLES = random_tables(58, 120, most_kinds=4, most_totals=3)
TABLE = Table(("cup", "tea"), ((0,), (0, 1)))
LINES = ((0, (1, 2)), (1, (1, 3)), (0, (1, 2)))
GOAL = ((2, 2), None)
BAR = (("goal", 0, -1), ("kept", 0, 3, 1))


def random_goal(rng, table, lines):
    """A goal that tells something of some totals, near the sums of the amounts."""
    goal = []
    for total in table.totals:
        middle = sum((exact(amount) for kind, amount in lines if kind in total), Fraction(0)).__floor__()
        least = middle + rng.randint(-1, 2)
        goal.append(None if rng.random() < 0.4 else (least, least + rng.randint(-1, 1)))
    return tuple(goal)


def all_reasons(table, lines, goal, kept=True):
    """All reasons there are."""
    found = []
    for sign in (1, -1):
        found.extend(("line", line, sign) for line in range(len(lines)))
        for total in range(len(table.totals)):
            if kept:
                found.extend(("kept", total, many, sign) for many in range(1, len(lines) + 1))
            if goal[total] is not None:
                found.append(("goal", total, sign))
    return found


def plain_weights(table, lines, reason):
    if reason[0] == "line":
        own = [reason[1]]
    else:
        many = reason[2] if reason[0] == "kept" else len(lines)
        own = [at for at in range(many) if lines[at][0] in table.totals[reason[1]]]
    return tuple(reason[-1] if at in own else 0 for at in range(len(lines)))


def plain_bound(table, lines, goal, reason):
    if reason[0] == "goal":
        return goal[reason[1]][1] if reason[-1] == 1 else -goal[reason[1]][0]
    own = sum((exact(amount) for (kind, amount), weight in zip(lines, plain_weights(table, lines, reason)) if weight),
              Fraction(0))
    return own.__ceil__() if reason[-1] == 1 else -own.__floor__()


def sums(table, lines, goal, reasons):
    """What the weights and the bounds of some reasons add up to."""
    weights = [plain_weights(table, lines, reason) for reason in reasons]
    return ([sum(column) for column in zip(*weights)] if weights else [0] * len(lines),
            sum(plain_bound(table, lines, goal, reason) for reason in reasons))


def all_days(lines):
    for wholes in product(*(choices(amount) for _, amount in lines)):
        yield tuple((kind, amount, whole) for (kind, amount), whole in zip(lines, wholes))


def cases(seed, most, times=1):
    rng = random.Random(seed)
    for table in TABLES * times:
        lines = random_lines(rng, table, rng.randint(0, most), 3)
        yield rng, table, lines, random_goal(rng, table, lines)


class Reasons(unittest.TestCase):

    def test_weights_and_bounds(self):
        for rng, table, lines, goal in cases(1, 5):
            for reason in all_reasons(table, lines, goal):
                self.assertEqual(reason_weights(table, lines, reason), plain_weights(table, lines, reason))
                self.assertEqual(reason_bound(table, lines, goal, reason), plain_bound(table, lines, goal, reason))

    def test_wholes_of_asked_days(self):
        seen = 0
        for rng, table, lines, goal in cases(2, 5):
            for kept in (True, False):
                reasons = [(reason_weights(table, lines, reason), reason_bound(table, lines, goal, reason))
                           for reason in all_reasons(table, lines, goal, kept)]
                for day in all_days(lines):
                    if is_goal_day(table, lines, goal, day, kept):
                        seen += 1
                        for weights, bound in reasons:
                            self.assertLessEqual(sum(weight * line[2] for weight, line in zip(weights, day)), bound)
        self.assertGreater(seen, 200)

    def test_examples(self):
        self.assertIs(is_bar(TABLE, LINES, GOAL, BAR), True)
        self.assertIs(is_bar(kept=True, value=BAR, goal=GOAL, lines=LINES, table=TABLE), True)
        self.assertEqual(reason_weights(reason=BAR[0], lines=LINES, table=TABLE), (-1, 0, -1))
        self.assertEqual(reason_bound(reason=BAR[0], goal=GOAL, lines=LINES, table=TABLE), -2)
        self.assertEqual(reason_bound(TABLE, LINES, GOAL, ("kept", 1, 2, 1)), 1)
        self.assertEqual(reason_bound(TABLE, LINES, GOAL, ("kept", 1, 2, -1)), 0)
        self.assertEqual(reason_weights(TABLE, LINES, ("kept", 1, 2, -1)), (-1, -1, 0))
        self.assertEqual(reason_bound(TABLE, LINES, GOAL, ("line", 1, 1)), 1)
        self.assertEqual(reason_bound(TABLE, ((0, (-7, 2)), (0, (5, 1))), GOAL, ("line", 0, -1)), 4)
        self.assertEqual(reason_bound(TABLE, ((0, (-7, 2)), (0, (5, 1))), GOAL, ("line", 1, -1)), -5)
        self.assertEqual(reason_bound(TABLE, LINES, ((5, 1), None), ("goal", 0, 1)), 1)


class Bars(unittest.TestCase):

    def some_reasons(self, rng, table, lines, goal):
        every = all_reasons(table, lines, goal)
        reasons = [rng.choice(every) for _ in range(rng.randint(0, 4))] if every else []
        if rng.random() < 0.7:
            # What the others bound is bounded from the other side, line by line.
            weights, _ = sums(table, lines, goal, reasons)
            for at, weight in enumerate(weights):
                reasons.extend([("line", at, -1 if weight > 0 else 1)] * abs(weight))
        rng.shuffle(reasons)
        return tuple(reasons)

    def test_random_bars(self):
        seen = {}
        for rng, table, lines, goal in cases(3, 4, 8):
            value = self.some_reasons(rng, table, lines, goal)
            weights, bound = sums(table, lines, goal, value)
            right = not any(weights) and bound < 0
            self.assertIs(is_bar(table, lines, goal, value), right)
            plain = all(reason[0] != "kept" for reason in value)
            self.assertIs(is_bar(table, lines, goal, value, False), right and plain)
            self.assertIs(is_bar(table, lines, goal, value, kept=True), right)
            if right:
                self.assertFalse(any(is_goal_day(table, lines, goal, day, not plain) for day in all_days(lines)))
            seen[right, plain] = seen.get((right, plain), 0) + 1
        self.assertEqual(len(seen), 4)
        self.assertGreater(min(seen.values()), 10)

    def test_nothing_bars(self):
        self.assertIs(is_bar(TABLE, LINES, GOAL, ()), False)
        self.assertIs(is_bar(TABLE, (), ((1, 0), None), (("goal", 0, 1), ("goal", 0, -1))), True)
        self.assertIs(is_bar(TABLE, (), ((1, 1), None), (("goal", 0, 1), ("goal", 0, -1))), False)
        self.assertIs(is_bar(TABLE, (), ((1, 1), None), (("goal", 0, -1),)), True)

    def test_without_blocks(self):
        ring = Table(("cup", "jam", "tea"), ((0, 1), (1, 2), (0, 2)))
        self.assertEqual(court(ring).__class__.__name__, "Knot")
        lines = ((0, (1, 2)), (1, (1, 2)), (2, (1, 2)))
        # Each total is 1, so twice the sum of all three wholes would be 3: reasons cannot tell that this is odd.
        value = tuple(("goal", total, sign) for total in range(3) for sign in (1, -1))
        self.assertIs(is_bar(ring, lines, ((1, 1), (1, 1), (1, 1)), value), False)
        self.assertIs(is_bar(ring, lines, ((3, 3), None, None), (("goal", 0, -1), ("line", 0, 1), ("line", 1, 1))), True)

    def test_limit_papers(self):
        seen = {True: 0, False: 0}
        for rng, table, lines, goal in cases(4, 4, 8):
            if not table.totals:
                continue
            value, total = self.some_reasons(rng, table, lines, goal), rng.randrange(len(table.totals))
            sign = rng.choice((1, -1))
            own = [at for at, line in enumerate(lines) if line[0] in table.totals[total]]
            weights, _ = sums(table, lines, goal, value)
            if rng.random() < 0.8 and len(value) < 8:
                for at in own if not any(weights) else ():
                    value += (("line", at, sign),)
            weights, bound = sums(table, lines, goal, value)
            fits = weights == [sign * (at in own) for at in range(len(lines))]
            plain = all(reason[0] != "kept" for reason in value)
            for more in (0, 1, -1):
                right = fits and more == 0
                self.assertIs(is_limit_paper(table, lines, goal, total, sign, bound + more, value), right)
                self.assertIs(is_limit_paper(table, lines, goal, total, sign, bound + more, value, False), right and plain)
            turned = weights == [-sign * (at in own) for at in range(len(lines))]
            self.assertIs(is_limit_paper(table, lines, goal, total, -sign, bound, value), turned)
            if fits:
                for day in all_days(lines):
                    if is_goal_day(table, lines, goal, day, not plain):
                        self.assertLessEqual(sign * total_wholes(table, day)[total], bound)
            seen[fits] += 1
        self.assertGreater(min(seen.values()), 40)

    def test_limit_examples(self):
        free = (None, None)
        value = (("kept", 1, 3, 1),)
        self.assertIs(is_limit_paper(TABLE, LINES, free, 1, 1, 2, value), True)
        self.assertIs(is_limit_paper(kept=True, value=value, bound=2, sign=1, total=1, goal=free, lines=LINES, table=TABLE),
                      True)
        for wrong in ((1, 1, 3, value), (1, -1, 2, value), (0, 1, 2, value), (1, 1, 2, ()), (1, 1, 2, list(value))):
            self.assertIs(is_limit_paper(TABLE, LINES, free, *wrong), False)
        self.assertIs(is_limit_paper(TABLE, LINES, free, 1, 1, 2, value, False), False)
        self.assertIs(is_limit_paper(TABLE, (), free, 1, 1, 0, ()), True)

    def test_four_hundred_lines(self):
        rng = random.Random(5)
        lines = tuple((rng.randrange(2), (rng.randint(-10 ** 6, 10 ** 6) * 2 + 1, 2 ** rng.randint(1, 19)))
                      for _ in range(400))
        lines = tuple((kind, amount if abs(amount[0]) <= 10 ** 6 else (1, 999983)) for kind, amount in lines)
        value = tuple(("line", at, sign) for sign in (1, -1) for at in range(400)) + BAR[:1] + (("kept", 0, 400, 1),)
        _, bound = sums(TABLE, lines, GOAL, value)
        self.assertIs(is_bar(TABLE, lines, GOAL, value), bound < 0)
        high = plain_bound(TABLE, lines, GOAL, ("kept", 0, 400, 1))
        self.assertIs(is_bar(TABLE, lines, ((high + 1, high + 1), None), BAR[:1] + (("kept", 0, 400, 1),)), True)
        self.assertIs(is_bar(TABLE, lines, ((high, high), None), BAR[:1] + (("kept", 0, 400, 1),)), False)


class AnyValue(unittest.TestCase):

    def test_nearly_reasons(self):
        for wrong in [("line", 3, 1), ("line", -1, 1), ("line", 0, 0), ("line", 0, 2), ("line", 0), ("line", 0, 1, 1),
                      ("line", True, 1), ("line", 0, True), ("line", 0.0, 1), ("line", 0, 1.0), ("Line", 0, 1), ["line", 0, 1],
                      ("kept", 0, 0, 1), ("kept", 0, 4, 1), ("kept", 0, -1, 1), ("kept", 0, True, 1), ("kept", 2, 3, 1),
                      ("kept", -1, 3, 1), ("kept", 0, 3, 0), ("kept", 0, 3), ("kept", 0, 3, 1, 1), ("kept", 0, 3, -2),
                      ("kept", False, 3, 1), ("kept", 0, 3.0, 1), ("kept", 0, 3, True), ("goal", 1, 1), ("goal", 2, 1),
                      ("goal", -1, 1), ("goal", 0, 0), ("goal", False, 1), ("goal", 0, True), ("goal", 0), ("goal", 0, 3, 1),
                      ("goals", 0, 1), "line", (), None]:
            for at in range(3):
                value = BAR[:at] + (wrong,) + BAR[at:]
                self.assertIs(is_bar(TABLE, LINES, GOAL, value), False)
                self.assertIs(is_limit_paper(TABLE, LINES, GOAL, 0, 1, 1, (wrong,)), False)
        self.assertIs(is_bar(TABLE, LINES, GOAL, BAR + (("line", 0, 1), ("line", 0, -1))), False)
        self.assertIs(is_bar(TABLE, LINES, GOAL, (("goal", 0, -1),) + BAR), False)
        self.assertIs(is_bar(TABLE, LINES, GOAL, BAR + BAR), True)
        self.assertIs(is_bar(TABLE, LINES, (None, None), BAR), False)
        self.assertIs(is_bar(TABLE, LINES, GOAL, BAR, False), False)

    def test_other_values(self):
        for value in odd_values() + [list(BAR), 0]:
            self.assertIs(is_bar(TABLE, LINES, GOAL, value), False)
            self.assertIs(is_bar(TABLE, LINES, GOAL, (value,)), False)
            self.assertIs(is_bar(TABLE, LINES, GOAL, BAR + (value,)), False)
            self.assertIs(is_limit_paper(TABLE, LINES, GOAL, 0, 1, 1, value), False)
        for other in (True, False, None, 1.0, "1", [], Rude(), Yes(), 7, -2, deep_tuple(2000)):
            for value in with_swapped(BAR, other):
                self.assertIs(is_bar(TABLE, LINES, GOAL, value), False)
            for value in with_swapped((("kept", 1, 3, 1),), other):
                self.assertIs(is_limit_paper(TABLE, LINES, GOAL, 1, 1, 2, value), False)


if __name__ == "__main__":
    unittest.main()
