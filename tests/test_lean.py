"""Promise [70]: lean repairs."""

import random
import unittest

from centsatonce.clashes import harmless
from centsatonce.lean import lean_repairs
from centsatonce.repairs import is_repair
from centsatonce.tables import Table
from tests.helpers import NAMES, raised
from tests.test_repairs import TABLE, TABLES, plain_price, random_prices, repairs_of
from tests.test_spoils import ring_table

SIZE = ("Refused", {"word": "size"})


def parts_with_one_less(part):
    kinds, totals = part
    return [(kinds[:at] + kinds[at + 1:], totals) for at in range(len(kinds))] + \
        [(kinds, totals[:at] + totals[at + 1:]) for at in range(len(totals))]


def plain_lean(table):
    """All lean repairs, by trying all parts."""
    repairs = set(repairs_of(table))
    return sorted(part for part in repairs if not any(less in repairs for less in parts_with_one_less(part)))


def free_prices(table):
    return ((1,) * len(table.kinds), (1,) * len(table.totals))


class Lean(unittest.TestCase):

    def test_all_parts(self):
        rng = random.Random(1)
        sizes = set()
        for table in TABLES:
            lean = plain_lean(table)
            for _ in range(3):
                prices = random_prices(rng, table)
                right = tuple(part for part in lean if plain_price(prices, part) is not None)
                self.assertEqual(lean_repairs(table, prices), right)
                sizes.add(min(len(right), 3))
            if len(table.kinds) + len(table.totals) <= 12:
                self.assertEqual(lean_repairs(table, free_prices(table)), tuple(lean))
        self.assertEqual(sizes, {0, 1, 2, 3})

    def test_harmless(self):
        seen = 0
        for table in TABLES:
            if len(table.kinds) + len(table.totals) <= 12:
                lean = lean_repairs(table, free_prices(table))
                kinds = {kind for part in lean for kind in part[0]}
                totals = {total for part in lean for total in part[1]}
                self.assertEqual(harmless(table), (tuple(sorted(set(range(len(table.kinds))) - kinds)),
                                                   tuple(sorted(set(range(len(table.totals))) - totals))))
                seen += 1
        self.assertGreater(seen, 80)

    def test_examples(self):
        self.assertEqual(lean_repairs(TABLE, ((1, None, 1, 1), (None, 1, None))), (((), (1,)), ((0,), ()), ((2, 3), ())))
        self.assertEqual(lean_repairs(prices=((None,) * 4, (None,) * 3), table=TABLE), ())
        good = Table(("a", "b"), ((0, 1),))
        self.assertEqual(lean_repairs(good, ((None, None), (None,))), (((), ()),))
        self.assertEqual(lean_repairs(good, ((1, 1), (1,))), (((), ()),))
        # The numbers of prices do not matter.
        self.assertEqual(lean_repairs(TABLE, ((1000, None, 2, 7), (None, 3, None))), (((), (1,)), ((0,), ()), ((2, 3), ())))

    def test_twelve_prices(self):
        nested = Table(NAMES, tuple(tuple(range(many)) for many in range(1, 13)))
        for prices, expected in ((((1,) * 12, (None,) * 12), None), (((1,) * 12, (1,) + (None,) * 11), SIZE),
                                 (((None,) * 12, (1,) * 12), None), (((1,) * 6 + (None,) * 6, (1,) * 7 + (None,) * 5), SIZE)):
            self.assertEqual(raised(lean_repairs, nested, prices), expected)
        # All but two of the kinds.
        lean = lean_repairs(nested, ((1,) * 12, (None,) * 12))
        self.assertEqual({len(part[0]) for part in lean}, {10})
        self.assertEqual(len(lean), 66)
        ring = ring_table(11)
        lean = lean_repairs(ring, ((1,) * 11, (1,) + (None,) * 10))
        self.assertEqual(len(lean), 12)
        for part in lean:
            self.assertIs(is_repair(ring, part), True)


if __name__ == "__main__":
    unittest.main()
