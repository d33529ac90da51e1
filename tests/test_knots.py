"""Promises [29] and, of [30], parting_total and three_in: knots."""

import random
import unittest
from itertools import combinations, permutations

from centsatonce.knots import Knot, is_knot, odd_ring, parted, parting_total, partings_into_three, three_in, three_totals
from centsatonce.tables import Table
from tests.helpers import NAMES, Rude, Yes, deep_tuple, every_table, is_good_table, odd_values, plain_classes
from tests.helpers import plain_totals, random_tables, with_swapped

TABLES = random_tables(29, 150, most_kinds=6, most_totals=6, sizes=(1, 2, 2, 2, 3, 4))
RING = Table(("a", "b", "c"), ((0, 1), (1, 2), (0, 2)))
NESTED = Table(("a", "b", "c"), ((0,), (0, 1), (0, 1, 2)))


def plain_parted(table, total, one, other):
    lots = {(True, True): [], (True, False): [], (False, True): [], (False, False): []}
    totals = plain_totals(table)
    for number in totals[total]:
        lots[number in totals[one], number in totals[other]].append(number)
    return tuple(map(tuple, lots.values()))


def plain_pairs(table, total):
    """All pairs of totals that part a total into three or four."""
    pairs = combinations(range(len(table.totals)), 2)
    return tuple(pair for pair in pairs if sum(map(bool, plain_parted(table, total, *pair))) >= 3)


def is_plain_ring(table, classes, totals):
    """Whether plain numbers are an odd ring."""
    if len(classes) < 3 or len(classes) % 2 == 0 or len(set(classes)) != len(classes) or len(totals) != len(classes):
        return False
    every = plain_totals(table)
    return all(set(every[total]) == {classes[at], classes[(at + 1) % len(classes)]} for at, total in enumerate(totals))


def has_odd_ring(table):
    """Whether there is an odd ring, by trying all rows of classes."""
    tied = [set(total) for total in plain_totals(table) if len(total) == 2]
    for many in (3, 5):
        for row in permutations(range(len(plain_classes(table))), many):
            if all({row[at - 1], row[at]} in tied for at in range(many)):
                return True
    return False


class Threes(unittest.TestCase):

    def test_parted(self):
        for table in TABLES:
            every = range(len(table.totals))
            for total in every:
                for one in every:
                    for other in every:
                        self.assertEqual(parted(table, total, one, other), plain_parted(table, total, one, other))
        self.assertEqual(parted(other=1, one=0, total=2, table=NESTED), ((0,), (), (1,), (2,)))

    def test_pairs(self):
        for table in TABLES:
            wide = tuple(at for at, total in enumerate(plain_totals(table)) if len(total) >= 3)
            self.assertEqual(three_totals(table), wide)
            for total in range(len(table.totals)):
                pairs = plain_pairs(table, total)
                self.assertEqual(partings_into_three(table, total), pairs)
                self.assertEqual(bool(pairs), total in wide)
                knot = three_in(table, total)
                if total not in wide:
                    self.assertIsNone(knot)
                    continue
                self.assertIs(is_knot(table, knot), True)
                self.assertEqual((knot.word, knot.at), ("three", total))
                self.assertIn(knot.totals, pairs)

    def test_three_kinds_of_one_class(self):
        table = Table(("a", "b", "c", "d"), ((0, 1, 2), (3,), (0, 1, 2, 3)))
        self.assertEqual(three_totals(table=table), ())
        self.assertIsNone(three_in(total=2, table=table))
        self.assertEqual(partings_into_three(total=2, table=table), ())

    def test_parting_total(self):
        for table in TABLES:
            totals = plain_totals(table)
            for one, other in permutations(range(len(plain_classes(table))), 2):
                right = min(at for at, total in enumerate(totals) if (one in total) != (other in total))
                self.assertEqual(parting_total(table, one, other), right)
        self.assertEqual(parting_total(other=2, one=1, table=NESTED), 1)

    def test_how_a_total_is_parted_into_three(self):
        for table in TABLES:
            for total in three_totals(table):
                first, second, third = plain_totals(table)[total][:3]
                one = parting_total(table, first, second)
                beside = first if (first in plain_totals(table)[one]) == (third in plain_totals(table)[one]) else second
                other = parting_total(table, third, beside)
                self.assertIn(tuple(sorted((one, other))), partings_into_three(table, total))

    def test_examples(self):
        self.assertEqual((partings_into_three(NESTED, 2), odd_ring(NESTED)), (((0, 1),), None))


class Rings(unittest.TestCase):

    def check_ring(self, table):
        knot = odd_ring(table)
        if knot is None:
            return False
        self.assertEqual(knot.word, "ring")
        self.assertTrue(is_plain_ring(table, knot.at, knot.totals))
        self.assertIs(is_knot(table, knot), True)
        return True

    def test_found_exactly_if_there_is_one(self):
        found = 0
        for table in TABLES + random_tables(30, 150, most_kinds=6, most_totals=8, sizes=(2,)):
            self.assertEqual(self.check_ring(table), has_odd_ring(table))
            found += has_odd_ring(table)
        self.assertGreater(found, 30)

    def test_long_rings(self):
        rng = random.Random(1)
        for many in range(3, 13):
            pairs = [tuple(sorted((at, (at + 1) % many))) for at in range(many)]
            for _ in range(10):
                rng.shuffle(pairs)
                self.assertEqual(self.check_ring(Table(NAMES[:many], tuple(pairs))), many % 2 == 1)
                self.assertIs(self.check_ring(Table(NAMES[:many], tuple(pairs[1:]))), False)

    def test_ring_far_from_the_first_class(self):
        tail = ((0, 1), (1, 2), (2, 3), (3, 4))
        self.assertTrue(self.check_ring(Table(NAMES[:7], tail + ((4, 5), (5, 6), (4, 6)))))
        self.assertFalse(self.check_ring(Table(NAMES[:8], tail + ((4, 5), (5, 6), (6, 7), (4, 7)))))
        self.assertTrue(self.check_ring(Table(NAMES[:5], ((0, 1), (2, 3), (3, 4), (2, 4)))))

    def test_two_ties_of_the_same_classes(self):
        self.assertIsNone(odd_ring(table=Table(("a", "b"), ((0, 1), (0, 1), (0,)))))

    def test_good_exactly_if_there_is_no_knot(self):
        for table in list(every_table(3, 3)) + TABLES:
            knot = odd_ring(table) or next((three_in(table, total) for total in three_totals(table)), None)
            self.assertIs(knot is None, is_good_table(table))


class AnyValue(unittest.TestCase):

    def test_class_keeps_what_it_is_given(self):
        for value in odd_values():
            self.assertIs(Knot(value, 1, 2).word, value)
            self.assertIs(Knot(1, value, 2).at, value)
            self.assertIs(Knot(totals=value, at=1, word=2).totals, value)
        self.assertEqual(vars(Knot("ring", (0,), (1,))), {"word": "ring", "at": (0,), "totals": (1,)})

    def test_threes(self):
        for table in TABLES[:60]:
            every = range(-1, len(table.totals) + 1)
            for total in every:
                for one in every:
                    for other in every:
                        inside = min(total, one, other) >= 0 and max(total, one, other) < len(table.totals)
                        right = inside and (one, other) in plain_pairs(table, total)
                        self.assertIs(is_knot(table, Knot("three", total, (one, other))), right)

    def test_all_rings_of_three(self):
        for table in TABLES[:60]:
            every = range(len(table.totals))
            for classes in permutations(range(len(plain_classes(table))), 3):
                for totals in permutations(every, 3):
                    right = is_plain_ring(table, classes, totals)
                    self.assertIs(is_knot(table, Knot("ring", classes, totals)), right)

    def test_nearly_rings(self):
        square = Table(("a", "b", "c", "d"), ((0, 1), (1, 2), (2, 3), (0, 3), (0, 2)))
        self.assertIs(is_knot(square, Knot("ring", (0, 1, 2), (0, 1, 4))), True)
        self.assertIs(is_knot(value=Knot("ring", (2, 0, 3), (4, 3, 2)), table=square), True)
        for classes, totals in (((0, 1, 2, 3), (0, 1, 2, 3)), ((0, 1), (0, 0)), ((0,), (0,)), ((), ()), ((0, 1, 2), (0, 1)),
                                ((0, 1, 2), (0, 1, 4, 4)), ((0, 1, 2), (1, 0, 4)), ((0, 1, 0), (0, 0, 0)),
                                ((0, 1, 3), (0, 1, 3)), ((0, 1, 2, 3, 0), (0, 1, 2, 3, 0)), ((0, 1, 4), (0, 1, 4)),
                                ((0, 1, 2), (0, 1, 5)), ((0, 1, 2), (0, 1, -1)), ((2, 0, 1, 0, 3), (4, 0, 0, 3, 2))):
            self.assertIs(is_knot(square, Knot("ring", classes, totals)), False)
        self.assertIs(is_knot(square, Knot("three", (0, 1, 2), (0, 1, 4))), False)
        self.assertIs(is_knot(NESTED, Knot("ring", 2, (0, 1))), False)

    def test_other_values(self):
        for word, at, totals, table in (("ring", (0, 1, 2), (0, 1, 2), RING), ("three", 2, (0, 1), NESTED)):
            self.assertIs(is_knot(table, Knot(word, at, totals)), True)
            for other in (True, False, None, 1.0, "1", [], Rude(), Yes(), -1, 9, 10 ** 30, (0,), deep_tuple(2000), "four"):
                for value in with_swapped((at, totals), other):
                    if isinstance(value, tuple) and len(value) == 2:
                        self.assertIs(is_knot(table, Knot(word, value[0], value[1])), False)
                self.assertIs(is_knot(table, Knot(other, at, totals)), False)
            self.assertIs(is_knot(table, Knot(word, at, totals[::-1])), False)
            for value in odd_values() + [(word, at, totals)]:
                self.assertIs(is_knot(table, value), False)
                self.assertIs(is_knot(table, Knot(value, value, value)), False)
        self.assertIs(is_knot(NESTED, Knot("three", 2, (0, 0))), False)
        self.assertIs(is_knot(NESTED, Knot("three", 2, (0, 2))), False)
        self.assertIs(is_knot(NESTED, Knot("three", 2, (0,))), False)
        self.assertIs(is_knot(NESTED, Knot("three", 2, (0, 1, 2))), False)
        self.assertIs(is_knot(NESTED, Knot("Three", 2, (0, 1))), False)
        self.assertIs(is_knot(NESTED, Knot("three", 1, (0, 2))), False)
        self.assertIs(is_knot(RING, Knot("rings", (0, 1, 2), (0, 1, 2))), False)


if __name__ == "__main__":
    unittest.main()
