"""Promise [24]: all that is derived."""

import unittest
from itertools import combinations, product

from centsatonce.derivations import derived_by, is_derivation
from centsatonce.derived import closes, derived_lot, is_closed_lot
from centsatonce.reckonings import is_beyond
from centsatonce.tables import Table
from tests.helpers import NAMES, Rude, Yes, deep_tuple, every_table, is_good_table, odd_values, plain_classes, plain_totals
from tests.helpers import random_tables, with_swapped

TABLES = random_tables(24, 200, most_kinds=5, most_totals=5, sizes=(0, 1, 2, 2, 3))
PAIR = Table(("cup", "tea"), ((0,), (0, 1)))
LOT = ((-1, -1), (-1, 0), (0, -1), (0, 0), (0, 1), (1, 0), (1, 1))


def plain_lot(table):
    """The set of all derived reckonings, None if one of them is beyond, difference by difference."""
    many = len(plain_classes(table))
    found = {tuple(sign * (number in total) for number in range(many)) for total in plain_totals(table) for sign in (1, -1)}
    while True:
        fresh = set()
        for one, other in product(found, repeat=2):
            if any(a == b != 0 for a, b in zip(one, other)):
                fresh.add(tuple(a - b for a, b in zip(one, other)))
        if any(abs(entry) > 1 for one in fresh for entry in one):
            return None
        if fresh <= found:
            return found
        found |= fresh


def is_plain_closed(table, value):
    """Whether a tuple of tuples of integers is a closed lot, by the words of the promise."""
    many = len(plain_classes(table))
    if list(value) != sorted(set(value)) or any(len(one) != many for one in value):
        return False
    if any(abs(entry) > 1 for one in value for entry in one):
        return False
    for total in plain_totals(table):
        for sign in (1, -1):
            if tuple(sign * (number in total) for number in range(many)) not in value:
                return False
    return all(tuple(a - b for a, b in zip(one, other)) in value for one in value for other in value
               if any(a == b != 0 for a, b in zip(one, other)))


class Derived(unittest.TestCase):

    def check(self, table):
        right = plain_lot(table)
        word, found = derived_lot(table)
        self.assertIs(closes(table), right is not None)
        self.assertIs(closes(table), is_good_table(table))
        if right is None:
            self.assertEqual(word, "beyond")
            self.assertIs(is_derivation(table, found), True)
            self.assertIs(is_beyond(derived_by(table, found)), True)
            return
        self.assertEqual((word, found), ("closed", tuple(sorted(right))))
        self.assertIs(is_closed_lot(table, found), True)
        self.assertLessEqual(len(found), 157)
        for one in found:
            self.assertLessEqual(sum(entry != 0 for entry in one), 2)
            for other in found:
                alike = any(a == b != 0 for a, b in zip(one, other))
                self.assertFalse(alike and any(a == -b != 0 for a, b in zip(one, other)))

    def test_random_tables(self):
        for table in TABLES:
            self.check(table)

    def test_all_small_tables(self):
        for table in every_table(3, 3):
            self.check(table)

    def test_most(self):
        lines = Table(NAMES, tuple((at, at + 1) for at in range(11)) + ((11,),))
        self.assertEqual(len(derived_lot(lines)[1]), 157)
        self.assertIs(is_closed_lot(lines, derived_lot(lines)[1]), True)
        star = Table(NAMES, tuple((0, at) for at in range(1, 12)) + ((0,),))
        self.assertEqual(len(derived_lot(star)[1]), 157)

    def test_examples(self):
        self.assertEqual(derived_lot(table=PAIR), ("closed", LOT))
        self.assertIs(closes(table=PAIR), True)
        self.assertIs(is_closed_lot(value=LOT, table=PAIR), True)
        self.assertEqual(derived_lot(Table(("a", "b"), ())), ("closed", ()))
        self.assertEqual(derived_lot(Table(("a", "b"), ((),))), ("closed", ((),)))
        self.assertEqual(derived_lot(Table(("a", "b"), ((), (1,)))), ("closed", ((-1,), (0,), (1,))))


class Closed(unittest.TestCase):

    def test_all_lots_of_small_tables(self):
        for table in (PAIR, Table(("a", "b"), ((0,), (1,))), Table(("a",), ((0,),)), Table(("a", "b"), ((0, 1), (1,)))):
            many = len(plain_classes(table))
            least, closed = plain_lot(table), 0
            every = sorted(product((-1, 0, 1), repeat=many))
            for size in range(len(every) + 1):
                for value in combinations(every, size):
                    expected = is_plain_closed(table, value)
                    self.assertIs(is_closed_lot(table, value), expected)
                    if expected:
                        closed += 1
                        self.assertLessEqual(least, set(value))
            self.assertGreater(closed, 0)

    def test_none_where_something_is_beyond(self):
        ring = Table(("a", "b", "c"), ((0, 1), (1, 2), (0, 2)))
        every = tuple(sorted(product((-1, 0, 1), repeat=3)))
        self.assertIs(is_closed_lot(ring, every), False)
        self.assertIs(is_closed_lot(Table(("a",), ()), ()), True)
        self.assertIs(is_closed_lot(Table(("a",), ()), ((),)), True)
        self.assertIs(is_closed_lot(Table(("a",), ((),)), ()), False)

    def test_more_than_is_derived(self):
        table = Table(("a", "b", "c", "d"), ((0,), (1,), (2, 3), (2,)))
        lot = derived_lot(table)[1]
        self.assertIs(is_closed_lot(table, lot), True)
        wider = tuple(sorted(set(lot) | {(1, -1, 0, 0), (-1, 1, 0, 0)}))
        self.assertIs(is_closed_lot(table, wider), True)
        wider = tuple(sorted(set(lot) | {(1, -1, 0, 0)}))
        self.assertIs(is_closed_lot(table, wider), is_plain_closed(table, wider))

    def test_nearly_closed(self):
        for table in TABLES[:80]:
            word, lot = derived_lot(table)
            if word != "closed":
                continue
            for at in range(len(lot)):
                for value in (lot[:at] + lot[at + 1:], lot[:at] + lot[at:at + 1] + lot[at:], lot[at:] + lot[:at],
                              lot[:at] + (tuple(2 * entry for entry in lot[at]),) + lot[at + 1:]):
                    self.assertIs(is_closed_lot(table, value), is_plain_closed(table, value))

    def test_any_value(self):
        for value in odd_values() + [list(LOT), LOT + LOT, LOT[::-1], dict.fromkeys(LOT), set(LOT)]:
            self.assertIs(is_closed_lot(PAIR, value), False)
            self.assertIs(is_closed_lot(PAIR, (value,)), False)
            self.assertIs(is_closed_lot(PAIR, LOT + (value,)), False)
            self.assertIs(is_closed_lot(PAIR, (value,) + LOT), False)
        for other in (True, False, None, 1.0, 0.0, "1", [], Rude(), Yes(), 2, -2, deep_tuple(2000)):
            for value in with_swapped(LOT, other):
                self.assertIs(is_closed_lot(PAIR, value), False)
        for beyond in ((2, 0), (0, -2), (7, 7)):
            self.assertIs(is_closed_lot(PAIR, tuple(sorted(LOT + (beyond,)))), False)
        self.assertIs(is_closed_lot(PAIR, tuple(sorted(product((-1, 0, 1), repeat=2)))), False)

    def test_long_values(self):
        table = Table(NAMES, tuple((kind,) for kind in range(12)))
        every = tuple(product((-1, 0, 1), repeat=8))
        self.assertIs(is_closed_lot(table, tuple((0,) * 4 + one for one in every)), False)


if __name__ == "__main__":
    unittest.main()
