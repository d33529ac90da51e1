"""Promise [25]: fewest differences."""

import unittest
from itertools import product

from centsatonce.court import is_good
from centsatonce.derivations import count_differences, derived_by, is_derivation
from centsatonce.derived import closes, derived_lot
from centsatonce.shortest import derivation_of, fewest_differences
from centsatonce.tables import Table
from tests.helpers import NAMES, OTHERS, odd_values, plain_classes, plain_totals, raised, random_tables, with_swapped
from tests.test_spoils import ring_table

TABLES = random_tables(25, 300, most_kinds=5, most_totals=5, sizes=(0, 1, 2, 2, 2))
GOOD = [table for table in TABLES if is_good(table)]
LINE = Table(NAMES, tuple((at, at + 1) for at in range(11)) + ((11,),))
BEYOND = ("Refused", {"word": "beyond"})


def base_of(table):
    many = len(plain_classes(table))
    return {tuple(sign * (number in total) for number in range(many)) for total in plain_totals(table) for sign in (1, -1)}


def differences(known, base):
    """All differences of each one of some reckonings and of the others that agree with it somewhere."""
    return {tuple(a - b for a, b in zip(one, other)) for one, other in list(product(known, base)) + list(product(base, known))
            if any(a == b and a for a, b in zip(one, other))}


def plain_fewest(table, most):
    """A dict from reckonings to the fewest differences, by trying all derivations with at most so many."""
    fewest = {one: 0 for one in base_of(table)}
    rows = {frozenset(fewest)}
    for many in range(1, most + 1):
        longer = set()
        for known in rows:
            for one in differences(known, known) - known:
                fewest.setdefault(one, many)
                longer.add(known | {one})
        rows = longer
    return fewest


class Fewest(unittest.TestCase):

    def test_difference_by_difference(self):
        seen = set()
        for table in GOOD[:120]:
            word, lot = derived_lot(table)
            self.assertEqual(word, "closed")
            most = 3 if len(lot) <= 9 else 2 if len(lot) <= 13 else 1
            fewest = plain_fewest(table, most)
            for one in lot:
                found = fewest_differences(table, one)
                self.assertEqual(found if found <= most else None, fewest.get(one), (table.totals, one))
                seen.add(found)
            self.assertLessEqual(set(fewest), set(lot))
        self.assertLessEqual({0, 1, 2}, seen)

    def test_derivations(self):
        for table in GOOD + [LINE, ring_table(12)]:
            for one in derived_lot(table)[1][::3]:
                derivation = derivation_of(table, one)
                self.assertIs(is_derivation(table, derivation), True)
                self.assertEqual(derived_by(table, derivation), one)
                self.assertEqual(count_differences(derivation), fewest_differences(table, one))
                self.assertLessEqual(count_differences(derivation), 11)

    def test_differences_with_totals_are_enough(self):
        for table in GOOD[:80] + [LINE]:
            base = base_of(table)
            fewest, many = {one: 0 for one in base}, 0
            while True:
                fresh = differences(fewest, base) - set(fewest)
                if not fresh:
                    break
                many += 1
                fewest.update({one: many for one in fresh})
            self.assertEqual({one: fewest_differences(table, one) for one in derived_lot(table)[1]}, fewest)

    def test_eleven(self):
        # From one class to the ground over all twelve totals.
        self.assertEqual(fewest_differences(LINE, (1,) + (0,) * 11), 11)
        self.assertEqual(fewest_differences(LINE, (0,) * 11 + (-1,)), 0)
        self.assertEqual(fewest_differences(LINE, (1,) + (0,) * 10 + (1,)), 10)
        self.assertEqual(fewest_differences(LINE, (1,) + (0,) * 9 + (-1, 0)), 9)

    def test_examples(self):
        table = Table(("cup", "tea"), ((0,), (0, 1)))
        for one, many in (((1, 0), 0), ((1, 1), 0), ((-1, -1), 0), ((0, 1), 1), ((0, -1), 1), ((0, 0), 1), ((1, -1), None),
                          ((2, 0), None), ((1, 2), None)):
            self.assertEqual(fewest_differences(reckoning=one, table=table), many)
            self.assertIs(derivation_of(reckoning=one, table=table) is None, many is None)
        # An empty total is 0 without a difference; without classes there is one reckoning, derived or not.
        self.assertEqual(fewest_differences(Table(("cup",), ((0,), ())), (0,)), 0)
        self.assertEqual(derivation_of(Table(("cup",), ((), ())), ()), (("total", 0, 1),))
        self.assertIsNone(fewest_differences(Table(("cup",), ()), ()))
        self.assertIsNone(fewest_differences(Table(("cup",), ()), (0,)))


class AnyValue(unittest.TestCase):

    def test_not_derived(self):
        for table in GOOD[:60]:
            lot = derived_lot(table)[1]
            for one in product((-2, -1, 0, 1, 2), repeat=min(4, len(plain_classes(table)))):
                derived = one in lot
                self.assertIs(fewest_differences(table, one) is not None, derived)
                self.assertIs(derivation_of(table, one) is not None, derived)

    def test_other_values(self):
        table = Table(("a", "b", "c"), ((0, 1), (1, 2), (2,)))
        for other in OTHERS:
            for value in with_swapped((1, 1, 0), other):
                self.assertIsNone(fewest_differences(table, value))
                self.assertIsNone(derivation_of(table, value))
        for value in odd_values():
            self.assertIsNone(fewest_differences(table, value))
            self.assertIsNone(derivation_of(table, value))

    def test_beyond_comes_first(self):
        bad = [table for table in random_tables(26, 60, least_kinds=4, sizes=(1, 2, 2, 3, 4)) if not closes(table)]
        bad += [ring_table(3), ring_table(11)]
        self.assertGreater(len(bad), 20)
        for table in bad:
            for value in odd_values()[:12] + [base_of(table).pop(), (0,) * len(plain_classes(table)), None]:
                self.assertEqual(raised(fewest_differences, table, value), BEYOND)
                self.assertEqual(raised(derivation_of, table, value), BEYOND)


if __name__ == "__main__":
    unittest.main()
