"""Promises [17] and [18]: what clerks can do."""

import random
import unittest
from fractions import Fraction
from itertools import product
from math import ceil, floor

from centsatonce.games import can_keep, can_keep_from, can_keep_told, kept_days
from centsatonce.tables import Table
from tests.helpers import NAMES, errors_by_total, exact, is_good_table, is_kept_day, raised, random_fraction, random_lines
from tests.helpers import random_tables, told

HALVES = ((1, 2),)
RING = Table(("cup", "jam", "tea"), ((0, 1), (1, 2), (0, 2)))
ONE = Table(("cup",), ((0,),))
SIZE = ("Refused", {"word": "size"})


def plain_kept_days(table, lines):
    """All kept days with these lines, by trying all."""
    wholes = [sorted({floor(exact(amount)), ceil(exact(amount))}) for _, amount in lines]
    days = []
    for chosen in product(*wholes):
        day = tuple((kind, amount, whole) for (kind, amount), whole in zip(lines, chosen))
        if is_kept_day(table, day):
            days.append(day)
    return tuple(sorted(days))


def plain_wins(table, errors, ahead, amounts):
    """Whether a clerk can keep lines each of which is of one of some kinds, by trying all."""
    if any(abs(error) >= 1 for error in errors_by_total(table, errors)):
        return False
    if not ahead:
        return True
    for kind in ahead[0]:
        for amount in amounts:
            behind = []
            for whole in {floor(amount), ceil(amount)}:
                changed = list(errors)
                changed[kind] += whole - amount
                behind.append(changed)
            if not any(plain_wins(table, changed, ahead[1:], amounts) for changed in behind):
                return False
    return True


def random_game(rng, table):
    """Errors, fractions and a length with few rows."""
    errors = tuple(random_fraction(rng, 2, (1, 2, 3, 4)) for _ in table.kinds)
    if rng.random() < 0.4:
        errors = ((0, 1),) * len(table.kinds)
    fractions = tuple(random_fraction(rng, 4, (1, 2, 3, 4)) for _ in range(rng.randint(0, 2)))
    length = rng.randint(0, 3)
    while (len(fractions) * len(table.kinds)) ** length > 200:
        length -= 1
    return errors, fractions, length


class KeptDays(unittest.TestCase):

    def test_all_of_them(self):
        rng = random.Random(17)
        found = 0
        for table in random_tables(17, 120, most_kinds=5, most_totals=4):
            lines = random_lines(rng, table, rng.randint(0, 7))
            days = kept_days(table, lines)
            self.assertEqual(days, plain_kept_days(table, lines))
            found += len(days)
        self.assertGreater(found, 500)

    def test_ascending(self):
        free = Table(("cup",), ())
        days = kept_days(free, ((0, (-1, 2)), (0, (3, 1)), (0, (1, 2))))
        wholes = [tuple(whole for _, _, whole in day) for day in days]
        self.assertEqual(wholes, [(-1, 3, 0), (-1, 3, 1), (0, 3, 0), (0, 3, 1)])
        self.assertEqual(days, tuple(sorted(days)))

    def test_limit(self):
        self.assertEqual(len(kept_days(Table(("cup",), ()), ((0, (1, 2)),) * 12)), 4096)
        self.assertEqual(raised(kept_days, ONE, ((0, (1, 2)),) * 13), SIZE)
        self.assertEqual(raised(kept_days, ONE, ((0, (1, 1)),) * 13), SIZE)
        self.assertEqual(kept_days(ONE, ((0, (5, 1)),) * 12), (((0, (5, 1), 5),) * 12,))
        self.assertEqual(kept_days(ONE, ()), ((),))
        self.assertEqual(len(kept_days(ONE, ((0, (1, 2)),) * 12)), 64)

    def test_none(self):
        table = Table(("a", "b", "c"), ((0, 1), (1, 2), (0, 2), (0, 1, 2)))
        lines = ((0, (1, 2)), (1, (1, 2)), (2, (1, 2)))
        self.assertEqual(kept_days(table, lines), ())
        self.assertEqual(kept_days(table, lines), plain_kept_days(table, lines))

    def test_example(self):
        table = Table(("cup", "jam", "tea"), ((0, 1, 2), (0, 2), (1, 2)))
        self.assertEqual(kept_days(lines=((0, (1, 2)), (2, (1, 2)), (1, (1, 2))), table=table),
                         (((0, (1, 2), 0), (2, (1, 2), 1), (1, (1, 2), 0)), ((0, (1, 2), 1), (2, (1, 2), 0), (1, (1, 2), 1))))


class Games(unittest.TestCase):

    def test_against_plain_trying(self):
        rng = random.Random(18)
        seen = set()
        for table in random_tables(18, 400, most_kinds=4, most_totals=4, sizes=(1, 2, 2, 3)):
            errors, fractions, length = random_game(rng, table)
            start, amounts = [exact(error) for error in errors], [exact(one) for one in fractions]
            every = tuple(range(len(table.kinds)))
            right = plain_wins(table, start, (every,) * length, amounts)
            self.assertIs(can_keep_from(table, errors, fractions, length), right)
            zeros = [Fraction(0)] * len(every)
            self.assertIs(can_keep(table, fractions, length), plain_wins(table, zeros, (every,) * length, amounts))
            sequence = tuple(rng.choice(every) for _ in range(length))
            right_told = plain_wins(table, start, tuple((kind,) for kind in sequence), amounts)
            self.assertIs(can_keep_told(table, errors, sequence, fractions), right_told)
            seen.add((right, right_told, length > 0))
        self.assertGreaterEqual(len(seen), 5)

    def test_told_amounts_that_are_whole(self):
        table = Table(("a", "b"), ((0,), (0, 1)))
        for sequence in product((0, 1), repeat=3):
            for errors in (((1, 2), (0, 1)), ((-1, 2), (3, 4)), ((0, 1), (-2, 3))):
                for fractions in (((1, 1), (1, 2)), ((0, 1),), ((1, 3), (5, 1), (-1, 2))):
                    right = plain_wins(table, [exact(error) for error in errors], tuple((kind,) for kind in sequence),
                                       [exact(one) for one in fractions])
                    self.assertIs(can_keep_told(table, errors, sequence, fractions), right)

    def test_beginning(self):
        for errors, right in ((((1, 1),), False), (((-1, 1),), False), (((999, 1000),), True), (((0, 1),), True)):
            self.assertIs(can_keep_from(ONE, errors, (), 0), right)
            self.assertIs(can_keep_from(ONE, errors, (), 12), right)
            self.assertIs(can_keep_from(ONE, errors, HALVES, 0), right)
            self.assertIs(can_keep_told(ONE, errors, (), HALVES), right)
            self.assertIs(can_keep_told(ONE, errors, (0,), ()), right)
            self.assertIs(can_keep_from(ONE, errors, HALVES, 3), right)

    def test_ring(self):
        self.assertIs(can_keep(RING, HALVES, 2), True)
        self.assertIs(can_keep(RING, HALVES, 3), False)
        self.assertIs(can_keep(length=3, fractions=((1, 3),), table=RING), True)
        self.assertIs(can_keep_from(length=1, fractions=HALVES, errors=((1, 2), (0, 1), (-1, 2)), table=RING), False)
        self.assertIs(can_keep_from(RING, ((1, 2), (0, 1), (1, 3)), HALVES, 1), True)
        self.assertIs(can_keep_told(fractions=HALVES, sequence=(0, 1, 2), errors=((0, 1),) * 3, table=RING), False)
        self.assertIs(can_keep_told(RING, ((0, 1),) * 3, (0, 1, 1), HALVES), True)

    def test_lines_limit(self):
        none = ((0, 1),)
        self.assertIs(can_keep(ONE, HALVES, 12), True)
        self.assertEqual(raised(can_keep, ONE, HALVES, 13), SIZE)
        self.assertEqual(raised(can_keep, ONE, (), 13), SIZE)
        self.assertEqual(raised(can_keep_from, ONE, none, HALVES, 13), SIZE)
        self.assertEqual(raised(can_keep_from, ONE, ((1, 1),), (), 13), SIZE)
        self.assertIs(can_keep_told(ONE, none, (0,) * 12, HALVES), True)
        self.assertEqual(raised(can_keep_told, ONE, none, (0,) * 13, HALVES), SIZE)
        self.assertEqual(raised(can_keep_told, ONE, none, (0,) * 13, ()), SIZE)
        self.assertIs(can_keep(ONE, (), 12), True)
        self.assertEqual(raised(can_keep, ONE, HALVES, 10 ** 9), SIZE)

    def test_rows_limit(self):
        two = Table(("cup", "tea"), ((0,), (0, 1)))
        none = ((0, 1), (0, 1))
        self.assertIs(can_keep(two, HALVES, 12), True)
        thirds = ((1, 2), (1, 3))
        self.assertIs(can_keep(two, thirds, 6), True)
        self.assertEqual(raised(can_keep, two, thirds, 7), SIZE)
        self.assertEqual(raised(can_keep, two, HALVES * 2, 7), SIZE)
        self.assertIs(can_keep_told(two, none, (0, 1) * 6, thirds), True)
        self.assertEqual(raised(can_keep_told, two, none, (0,) * 8, thirds + ((1, 5),)), SIZE)
        self.assertIs(can_keep_told(two, none, (0, 1) * 3 + (0,), thirds + ((1, 5),)), True)
        self.assertEqual(raised(can_keep_told, two, none, (0,) * 8, HALVES * 3), SIZE)
        self.assertIs(can_keep(ONE, HALVES * 5000, 1), True)
        self.assertEqual(raised(can_keep, ONE, HALVES * 5001, 1), SIZE)
        self.assertEqual(raised(can_keep, two, HALVES * 2501, 1), SIZE)
        self.assertIs(can_keep(two, HALVES * 2500, 1), True)
        self.assertIs(can_keep(two, HALVES * 9000, 0), True)
        self.assertIs(can_keep_told(two, none, (1,), HALVES * 5000), True)
        self.assertEqual(raised(can_keep_told, two, none, (1,), HALVES * 5001), SIZE)
        seventy = tuple((1, bottom) for bottom in range(2, 72))
        self.assertIs(can_keep(ONE, seventy, 2), True)
        self.assertEqual(raised(can_keep, ONE, seventy + ((1, 73),), 2), SIZE)

    def test_twelve_kinds(self):
        table = Table(NAMES, tuple((kind, kind + 1) for kind in range(11)) + ((0,),))
        self.assertIs(can_keep(table, HALVES, 3), True)
        self.assertEqual(raised(can_keep, table, HALVES, 4), SIZE)

    def test_any_size(self):
        huge = 10 ** 3999
        self.assertIs(can_keep_from(ONE, ((huge - 1, huge),), HALVES, 3), True)
        self.assertIs(can_keep_from(ONE, ((huge + 1, huge),), (), 0), False)

    def test_good_tables_can_be_kept(self):
        for table in random_tables(19, 150, most_kinds=4, most_totals=4, sizes=(1, 2, 2, 3)):
            for fractions, length in ((HALVES, 6), (((1, 3), (3, 4)), 4)):
                if (len(fractions) * len(table.kinds)) ** length <= 5000 and is_good_table(table):
                    self.assertIs(can_keep(table, fractions, length), True)


class Italics(unittest.TestCase):

    def test_who_knows_more(self):
        rng = random.Random(20)
        strict = 0
        for table in random_tables(20, 150, most_kinds=3, most_totals=4, sizes=(1, 2, 2, 3), least_kinds=3):
            fractions = tuple(rng.sample(((1, 2), (1, 3), (2, 3), (1, 4), (3, 4)), 2))
            nothing = can_keep(table, fractions, 4)
            zeros = ((0, 1),) * 3
            for sequence in product(range(3), repeat=4):
                kinds = can_keep_told(table, zeros, sequence, fractions)
                lines = tuple((kind, rng.choice(fractions)) for kind in sequence)
                self.assertTrue(kinds or not nothing)
                self.assertTrue(kept_days(table, lines) or not kinds)
                strict += kinds and not nothing
        self.assertGreater(strict, 100)

    def test_fewer_is_no_harder(self):
        rng = random.Random(21)
        for table in random_tables(21, 150, most_kinds=3, most_totals=4, sizes=(1, 2, 2, 3)):
            errors, fractions, length = random_game(rng, table)
            sequence = tuple(rng.randrange(len(table.kinds)) for _ in range(length))
            if length and can_keep_from(table, errors, fractions, length):
                self.assertTrue(can_keep_from(table, errors, fractions, length - 1))
                self.assertTrue(can_keep_from(table, errors, fractions[1:], length))
                self.assertTrue(can_keep_from(Table(table.kinds, table.totals[1:]), errors, fractions, length))
            if length and can_keep_told(table, errors, sequence, fractions):
                self.assertTrue(can_keep_told(table, errors, sequence[:-1], fractions))
                self.assertTrue(can_keep_told(table, errors, sequence, fractions[:-1]))
                self.assertTrue(can_keep_told(Table(table.kinds, table.totals[:-1]), errors, sequence, fractions))

    def test_wholes_added_and_signs_turned(self):
        rng = random.Random(22)
        for table in random_tables(22, 150, most_kinds=3, most_totals=4, sizes=(1, 2, 2, 3)):
            errors, fractions, length = random_game(rng, table)
            sequence = tuple(rng.randrange(len(table.kinds)) for _ in range(length))
            moved = tuple(told(exact(one) + rng.randint(-3, 3)) for one in fractions)
            turned = tuple(told(-exact(one)) for one in fractions)
            opposite = tuple(told(-exact(error)) for error in errors)
            right = can_keep_from(table, errors, fractions, length)
            self.assertIs(can_keep_from(table, errors, moved, length), right)
            self.assertIs(can_keep_from(table, opposite, turned, length), right)
            right = can_keep_told(table, errors, sequence, fractions)
            self.assertIs(can_keep_told(table, errors, sequence, moved), right)
            self.assertIs(can_keep_told(table, opposite, sequence, turned), right)


if __name__ == "__main__":
    unittest.main()
