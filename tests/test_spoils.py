"""Promises [31] and [32]: what knots spoil."""

import unittest
from itertools import combinations, product

from centsatonce.court import court, is_good
from centsatonce.days import first_off
from centsatonce.derivations import count_differences, is_derivation
from centsatonce.games import can_keep
from centsatonce.halves import fewest_lines
from centsatonce.knots import Knot, is_knot, partings_into_three
from centsatonce.pressing import pressed_day
from centsatonce.spoils import spoiling
from centsatonce.tables import Table
from tests.helpers import NAMES, every_table, is_good_table, plain_classes, plain_totals, random_tables
from tests.test_derivations import plain_reckonings

TABLES = random_tables(31, 150, most_kinds=6, most_totals=5, sizes=(1, 2, 2, 3, 4))
TABLES += random_tables(32, 150, most_kinds=5, most_totals=7, sizes=(1, 2, 2, 2), least_kinds=3)
RING = Table(("cup", "jam", "tea"), ((0, 1), (1, 2), (0, 2)))


def three_knots(table):
    """All right knots of the first form."""
    return [Knot("three", total, pair) for total in range(len(table.totals)) for pair in partings_into_three(table, total)]


def all_rings(table, most=7):
    """All right knots of the second form, with every first class and both ways round."""
    totals = plain_totals(table)
    beyond = {}
    for at, total in enumerate(totals):
        if len(total) == 2:
            beyond.setdefault(total[0], []).append((total[1], at))
            beyond.setdefault(total[1], []).append((total[0], at))
    found = []
    rows = [((number,), ()) for number in beyond]
    while rows:
        classes, along = rows.pop()
        for number, at in beyond[classes[-1]]:
            if number == classes[0] and len(classes) % 2 == 1 and len(classes) >= 3:
                found.append(Knot("ring", classes, along + (at,)))
            if number not in classes and len(classes) < most:
                rows.append((classes + (number,), along + (at,)))
    return found


def ring_table(many, extra=()):
    """A table that is one ring of so many classes."""
    totals = tuple(tuple(sorted((at, (at + 1) % many))) for at in range(many))
    return Table(NAMES[:many], totals + extra)


def derived_set(table, rounds):
    """All that is derived with so few differences on top of one another, by the words of [22]."""
    many = len(plain_classes(table))
    found = {tuple(sign * (number in total) for number in range(many)) for total in plain_totals(table) for sign in (1, -1)}
    for _ in range(rounds):
        fit = [one for one in found if all(abs(entry) <= 1 for entry in one)]
        found = found | {tuple(a - b for a, b in zip(one, other)) for one, other in product(fit, repeat=2)
                         if any(a == b != 0 for a, b in zip(one, other))}
    return found


class Spoiling(unittest.TestCase):

    def check(self, table, knot):
        self.assertIs(is_knot(table, knot), True)
        steps = spoiling(table, knot)
        self.assertIs(is_derivation(table, steps), True)
        reckonings = plain_reckonings(table, steps)
        self.assertIsNotNone(reckonings)
        self.assertTrue(any(abs(entry) > 1 for entry in reckonings[-1]))
        most = 4 if knot.word == "three" else len(knot.at) - 1
        self.assertLessEqual(count_differences(steps), most)
        own = {knot.at, *knot.totals} if knot.word == "three" else set(knot.totals)
        self.assertLessEqual({step[1] for step in steps if step[0] == "total"}, own)
        return steps

    def test_threes(self):
        seen = set()
        for table in TABLES + list(every_table(4, 3)):
            for knot in three_knots(table):
                steps = self.check(table, knot)
                seen.add(count_differences(steps))
        self.assertLessEqual(seen, {1, 2, 3, 4})
        self.assertGreater(len(seen), 1)

    def test_all_ways_to_part_into_three(self):
        # Each of the lots may be empty or not, inside the total and outside.
        for inside in product((0, 1), repeat=4):
            if sum(inside) < 3:
                continue
            for outside in product((0, 1), repeat=3):
                patterns = [(1, one, other) for here, (one, other) in zip(inside, ((1, 1), (1, 0), (0, 1), (0, 0))) if here]
                patterns += [(0, one, other) for here, (one, other) in zip(outside, ((1, 1), (1, 0), (0, 1))) if here]
                totals = tuple(tuple(at for at, row in enumerate(patterns) if row[which]) for which in range(3))
                table = Table(NAMES[:len(patterns)], totals)
                self.check(table, Knot("three", 0, (1, 2)))
                swapped = Table(NAMES[:len(patterns)], (totals[0], totals[2], totals[1]))
                self.check(swapped, Knot("three", 0, (1, 2)))

    def test_rings(self):
        seen = set()
        for table in TABLES:
            for knot in all_rings(table):
                self.check(table, knot)
                seen.add(len(knot.at))
        self.assertEqual(seen, {3, 5})
        for many in (3, 5, 7, 9, 11):
            for knot in all_rings(ring_table(many), 11):
                self.check(ring_table(many), knot)

    def test_court(self):
        for table in TABLES:
            if not is_good(table):
                self.check(table, court(table))

    def test_one_of_six_has_two(self):
        for table in TABLES[:80]:
            totals = plain_totals(table)
            for knot in three_knots(table)[:4]:
                derived = derived_set(Table(table.kinds, tuple(table.totals[at] for at in (knot.at,) + knot.totals)), 4)
                s, *others = [tuple(int(number in totals[at]) for number in range(len(plain_classes(table))))
                              for at in (knot.at,) + knot.totals]
                found = False
                for t, u in (others, others[::-1]):
                    for a, b, c in ((1, -1, 1), (0, 1, -1), (1, -1, 0), (1, 0, -1), (-1, 2, -1), (2, -2, 1)):
                        one = tuple(a * x + b * y + c * z for x, y, z in zip(s, t, u))
                        found = found or (max(map(abs, one)) > 1 and self.merged_to(table, knot, one) in derived)
                self.assertTrue(found)

    def merged_to(self, table, knot, one):
        """A reckoning of a table as one of the table of three totals alone."""
        fewer = Table(table.kinds, tuple(table.totals[at] for at in (knot.at,) + knot.totals))
        classes = plain_classes(table)
        return tuple(next(entry for entry, kinds in zip(one, classes) if own[0] in kinds) for own in plain_classes(fewer))

    def test_along_a_ring(self):
        for many in (3, 5, 7, 9, 11):
            table = ring_table(many)
            steps = [("total", 0, 1)]
            for at in range(1, many - 1):
                steps.append(("total", at, -1 if at % 2 == 0 else 1))
                steps.append(("less", at, len(steps) - 2, len(steps) - 1))
            self.assertIs(is_derivation(table, tuple(steps)), True)
            reached = [one for one, step in zip(plain_reckonings(table, steps), steps) if step[0] == "less"]
            for at, one in enumerate(reached):
                self.assertEqual((one[0], one[at + 2]), (1, (-1) ** (at + 1)))
            self.assertEqual((reached[-1][0], reached[-1][many - 1]), (1, -1))

    def test_examples(self):
        steps = spoiling(knot=court(RING), table=RING)
        self.assertEqual(count_differences(steps), 2)
        self.assertEqual(max(map(abs, plain_reckonings(RING, steps)[-1])), 2)


class Alike(unittest.TestCase):

    def test_lines_of_one_half_beat_whoever_rounds(self):
        for table in TABLES:
            for knot in (three_knots(table) + all_rings(table))[:5]:
                steps = spoiling(table, knot)
                lines = count_differences(steps) + 1
                for ups in product((0, 1), repeat=lines):
                    day = pressed_day(table, steps, ups)
                    self.assertLessEqual(len(day), lines)
                    self.assertTrue(all(amount == (1, 2) for _, amount, _ in day))
                    self.assertIsNotNone(first_off(table, day))

    def test_good_or_not(self):
        for table in list(every_table(3, 3)) + TABLES[:60]:
            good = is_good_table(table)
            if len(table.kinds) <= 4:
                fewest = fewest_lines(table)
                self.assertIs(fewest is None, good)
                self.assertTrue(good or fewest <= 11)
            self.assertIs(not three_knots(table) and not all_rings(table), good)
            if len(table.kinds) <= 3:
                self.assertTrue(not good or can_keep(table, ((1, 2),), 6))
                self.assertTrue(not good or can_keep(table, ((1, 3), (1, 2)), 4))

    def test_as_many_halves(self):
        for table in TABLES:
            knots = three_knots(table) + all_rings(table)
            if knots and len(table.kinds) <= 3:
                lines = min(count_differences(spoiling(table, knot)) for knot in knots) + 1
                self.assertIs(can_keep(table, ((1, 2),), lines), False)

    def test_pairs_of_one_total(self):
        for one, other in combinations(range(3), 2):
            self.assertIs(is_knot(RING, Knot("three", 0, (one, other))), False)


if __name__ == "__main__":
    unittest.main()
