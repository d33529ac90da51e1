"""Promise [65]: moments at which a total can be begun."""

import random
import unittest
from fractions import Fraction

from centsatonce.begun import begin_total, no_starts, starts_behind
from centsatonce.court import is_good
from centsatonce.days import errors_of
from centsatonce.moments import can_begin, can_count, moments
from centsatonce.tables import Table, with_total
from centsatonce.walks import can_go_on
from tests.helpers import NAMES, Rude, Yes, exact, plain_classes, raised, random_fraction, random_lines, random_tables, rounded
from tests.helpers import told
from tests.test_begunheights import starts_of
from tests.test_spoils import ring_table

TABLES = random_tables(65, 200, most_kinds=4, most_totals=4, sizes=(0, 1, 1, 2, 2))
GOOD = [table for table in TABLES if is_good(table)]
TABLE = Table(("cup", "jam", "pie", "tea"), ((0, 1), (2, 3), (0, 2)))
DAY = ((0, (1, 2), 1), (3, (1, 4), 0), (1, (1, 2), 0))
NO_TOTAL = ("Refused", {"word": "total"})
SIZE = ("Refused", {"word": "size"})


def random_total(rng, table):
    size = rng.randint(0, min(3, len(table.kinds)))
    return tuple(sorted(rng.sample(range(len(table.kinds)), size)))


def counted(table, starts, errors):
    return [sum((exact(errors[kind]) for kind in total), Fraction(0)) - exact(start)
            for total, start in zip(table.totals, starts)]


class Now(unittest.TestCase):

    def test_begun_or_counted(self):
        rng = random.Random(1)
        seen = set()
        for table in TABLES:
            for _ in range(4):
                starts = no_starts(table)
                if is_good(table) and rng.random() < 0.5:
                    starts = starts_of(rng, table, tuple(random_fraction(rng, 1, (2, 3)) for _ in plain_classes(table)))
                errors = tuple(random_fraction(rng, 1, (2, 3)) for _ in table.kinds)
                total = random_total(rng, table)
                begun, all_starts = begin_total(table, starts, errors, total)
                begin, count = can_begin(table, starts, errors, total), can_count(table, starts, errors, total)
                self.assertIs(begin, can_go_on(begun, all_starts, errors))
                self.assertIs(count, can_go_on(with_total(table, total), starts + ((0, 1),), errors))
                seen.add((begin, count))
        self.assertEqual(len(seen), 4)

    def test_one_class_can_always_be_begun(self):
        rng = random.Random(2)
        many = 0
        for table in GOOD:
            errors = tuple(random_fraction(rng, 1, (2, 3)) for _ in table.kinds)
            starts = starts_of(rng, table, tuple(random_fraction(rng, 1, (2, 3)) for _ in plain_classes(table)))
            if can_go_on(table, starts, errors):
                for own in plain_classes(table):
                    self.assertIs(can_begin(table, starts, errors, own), True)
                    many += 1
        self.assertGreater(many, 60)

    def test_the_same_two_classes(self):
        rng = random.Random(3)
        seen = set()
        for table in GOOD:
            drawn = tuple(random_fraction(rng, 1, (1, 2)) for _ in plain_classes(table))
            starts = starts_of(rng, table, drawn)
            for elder, total in enumerate(table.totals):
                if sum(set(own) <= set(total) for own in plain_classes(table)) != 2:
                    continue
                for _ in range(6):
                    errors = tuple(told(Fraction(rng.randint(-2, 2), 2)) for _ in table.kinds)
                    if can_go_on(table, starts, errors):
                        begin = can_begin(table, starts, errors, total)
                        self.assertIs(begin, counted(table, starts, errors)[elder] == 0)
                        seen.add(begin)
        self.assertEqual(seen, {True, False})

    def test_refused(self):
        full = Table(("a", "b"), ((0,),) * 12)
        for table in (Table(("a", "b"), ()), full, ):
            zeros = ((0, 1),) * 2
            for total in [(2,), (1, 0), (0, 0), [0], None, (True,), "0", Rude(), Yes(), (Rude(),), (0.0,)]:
                for call in (can_begin, can_count):
                    self.assertEqual(raised(call, table, no_starts(table), zeros, total), NO_TOTAL)
                self.assertEqual(raised(moments, table, (), total), NO_TOTAL)
        for total in ((), (0,), (0, 1)):
            for call in (can_begin, can_count):
                self.assertEqual(raised(call, full, no_starts(full), ((0, 1),) * 2, total), SIZE)
            self.assertEqual(raised(moments, full, (), total), SIZE)
        # Where no clerk can go on, a total is still told to be one.
        self.assertEqual(raised(can_begin, ring_table(3), no_starts(ring_table(3)), ((0, 1),) * 3, (3,)), NO_TOTAL)
        self.assertIs(can_begin(ring_table(3), no_starts(ring_table(3)), ((0, 1),) * 3, (0,)), False)


class Moments(unittest.TestCase):

    def test_behind_each_number_of_lines(self):
        rng = random.Random(4)
        seen = set()
        for table in TABLES:
            day = rounded(rng, random_lines(rng, table, rng.randint(0, 6), 3))
            total = random_total(rng, table)
            right = []
            for many in range(len(day) + 1):
                errors = errors_of(table, day[:many])
                begun = with_total(table, total)
                starts = starts_behind(begun, (0,) * len(table.totals) + (many,), day[:many])
                if can_go_on(begun, starts, errors):
                    right.append(many)
            self.assertEqual(moments(table, day, total), tuple(right))
            seen.add((len(right) > 0, len(right) == len(day) + 1))
        self.assertEqual(seen, {(True, True), (True, False), (False, False)})

    def test_examples(self):
        self.assertEqual((moments(TABLE, DAY, (1, 3)), moments(TABLE, DAY, (0, 2)), moments(TABLE, DAY, (3,))),
                         ((0, 1), (0,), (0, 1, 2, 3)))
        self.assertEqual(moments(total=(), day=DAY, table=TABLE), (0, 1, 2, 3))
        self.assertEqual(moments(TABLE, (), (0, 1)), (0,))
        errors = errors_of(TABLE, DAY[:1])
        self.assertIs(can_begin(total=(0, 2), errors=errors, starts=no_starts(TABLE), table=TABLE), False)
        self.assertIs(can_count(total=(0, 2), errors=errors, starts=no_starts(TABLE), table=TABLE), True)
        # Behind a line by which a total is off, nobody can go on.
        self.assertEqual(moments(TABLE, ((0, (1, 2), 1), (1, (1, 2), 1), (0, (1, 2), 0)), (3,)), (0, 1, 3))
        self.assertEqual(moments(ring_table(3), DAY[:1], (0,)), ())

    def test_four_hundred(self):
        rng = random.Random(5)
        line = Table(NAMES, tuple((at, at + 1) for at in range(11)))
        day = tuple((rng.randrange(12), (1, 1), 1) for _ in range(200)) + ((0, (1, 2), 1),) + ((5, (3, 1), 3),) * 199
        self.assertEqual(moments(line, day, (0, 1)), tuple(range(201)))
        self.assertEqual(moments(line, day, (0,)), tuple(range(401)))


if __name__ == "__main__":
    unittest.main()
