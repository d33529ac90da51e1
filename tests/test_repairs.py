"""Promise [68]: repairs."""

import random
import unittest
from itertools import combinations, product

from centsatonce.clashes import all_clashes, part_table
from centsatonce.court import is_good
from centsatonce.repairs import coloured_alike, fewest_kinds, fewest_totals, is_repair, least_repair, price_of
from centsatonce.tables import Table
from tests.helpers import NAMES, OTHERS, is_good_table, odd_values, plain_classes, plain_totals, raised, random_tables
from tests.helpers import with_swapped
from tests.test_spoils import ring_table

TABLES = random_tables(68, 60, most_kinds=5, most_totals=5, sizes=(1, 2, 2, 3, 4), least_kinds=3)
TABLES += random_tables(69, 40, most_kinds=4, most_totals=6, sizes=(2, 2, 3), least_kinds=3)
TABLES += [ring_table(3), ring_table(5), Table(("a", "b"), ()), Table(("a", "b"), ((0, 1), ()))]
TABLE = Table(("a", "b", "c", "d"), ((0,), (0, 1), (0, 1, 2, 3)))
SIZE = ("Refused", {"word": "size"})


def lots_of(many):
    return [lot for size in range(many + 1) for lot in combinations(range(many), size)]


def all_parts(table):
    return list(product(lots_of(len(table.kinds)), lots_of(len(table.totals))))


def is_plain_repair(table, part):
    """Whether what is left without a part is fit, by building its table."""
    kinds = [kind for kind in range(len(table.kinds)) if kind not in part[0]]
    totals = [total for at, total in enumerate(table.totals) if at not in part[1]]
    if not kinds:
        return True
    left = tuple(tuple(kinds.index(kind) for kind in total if kind in kinds) for total in totals)
    return is_good_table(Table(tuple(table.kinds[kind] for kind in kinds), left))


def plain_price(prices, part):
    every = [prices[0][kind] for kind in part[0]] + [prices[1][total] for total in part[1]]
    return None if None in every else sum(every)


def random_prices(rng, table, most=12):
    """Prices for at most so many kinds and totals, None for others."""
    many = len(table.kinds) + len(table.totals)
    every = [rng.choice((1, 1, 2, 3, 7, 1000)) for _ in range(many)]
    staying = rng.sample(range(many), max(many - most, rng.randint(0, many)))
    every = [None if at in staying else price for at, price in enumerate(every)]
    return (tuple(every[:len(table.kinds)]), tuple(every[len(table.kinds):]))


REPAIRS = {}


def repairs_of(table):
    """All repairs of a table, by trying all parts."""
    key = (table.kinds, table.totals)
    if key not in REPAIRS:
        REPAIRS[key] = [part for part in all_parts(table) if is_plain_repair(table, part)]
    return REPAIRS[key]


class Repairs(unittest.TestCase):

    def test_all_parts(self):
        seen = {True: 0, False: 0}
        for table in TABLES[::2]:
            right = set(repairs_of(table))
            clashes = all_clashes(table)
            for part in all_parts(table):
                self.assertIs(is_repair(table, part), part in right)
                hits = all(set(part[0]) & set(kinds) or set(part[1]) & set(totals) for kinds, totals in clashes)
                self.assertIs(bool(hits), part in right)
                seen[part in right] += 1
        self.assertGreater(min(seen.values()), 500)

    def test_other_values(self):
        right = ((2, 3), (1,))
        self.assertIs(is_repair(TABLE, right), True)
        for other in (True, False, None, 1.0, "1", [], {}, -1, 9, 10 ** 30):
            for value in with_swapped(right, other):
                self.assertIs(is_repair(TABLE, value), False)
        for other in OTHERS:
            # Of these () and (0,) are lots of kinds.
            self.assertIs(is_repair(TABLE, (other, (1,))), isinstance(other, tuple))
        for value in odd_values():
            self.assertIs(is_repair(TABLE, value), False)
        for value in (((2, 3),), ((2, 3), (), ()), ((3, 2), ()), ((2, 2), ()), ((4,), ()), ((), (3,)), [(2, 3), ()],
                      ((2, 3), []), ([2, 3], ()), (2, 3)):
            self.assertIs(is_repair(TABLE, value), False)
        self.assertIs(is_repair(Table(("a",), ()), ((), ())), True)

    def test_prices(self):
        rng = random.Random(1)
        seen = set()
        for table in TABLES:
            prices = random_prices(rng, table)
            for part in rng.sample(all_parts(table), 8) if len(all_parts(table)) > 8 else all_parts(table):
                price = price_of(prices, part)
                self.assertEqual(price, plain_price(prices, part))
                seen.add(price is None)
        self.assertEqual(seen, {True, False})
        self.assertEqual(price_of(part=((0, 2), (1,)), prices=((5, None, 1, None), (None, 1000, 3))), 1006)
        self.assertIsNone(price_of(((5, None), (1,)), ((0, 1), ())))
        self.assertEqual(price_of(((5, None), (1,)), ((), ())), 0)

    def test_least_price(self):
        rng = random.Random(2)
        seen = set()
        for table in TABLES:
            for _ in range(3):
                prices = random_prices(rng, table)
                right = [plain_price(prices, part) for part in repairs_of(table)]
                right = [price for price in right if price is not None]
                repair = least_repair(table, prices)
                self.assertIs(repair is None, not right)
                if right:
                    self.assertIs(is_repair(table, repair), True)
                    self.assertEqual(plain_price(prices, repair), min(right))
                    seen.add(min(right) > 0)
                else:
                    seen.add(None)
        self.assertEqual(seen, {None, True, False})

    def test_examples(self):
        self.assertEqual((least_repair(TABLE, ((5, 4, 1, 1), (6, None, 7))), least_repair(TABLE, ((3, 3, 1, 1), (3, 3, None)))),
                         (((2, 3), ()), ((2, 3), ())))
        self.assertIsNone(least_repair(prices=((None,) * 4, (None,) * 3), table=TABLE))
        self.assertIsNone(least_repair(TABLE, ((None, None, 1, None), (None,) * 3)))
        self.assertEqual(least_repair(TABLE, ((None, 1000, None, None), (None,) * 3)), ((1,), ()))
        self.assertIs(is_repair(value=((), (0,)), table=TABLE), True)

    def test_twelve_prices(self):
        nested = Table(NAMES, tuple(tuple(range(many)) for many in range(1, 13)))
        for prices, expected in (((tuple([1] * 12), (None,) * 12), None), (((None,) * 12, tuple([1] * 12)), None),
                                 ((tuple([1] * 12), (1,) + (None,) * 11), SIZE), (((1,) * 12, (1,) * 12), SIZE),
                                 (((1,) * 6 + (None,) * 6, (1,) * 6 + (None,) * 6), None),
                                 (((1,) * 6 + (None,) * 6, (1,) * 7 + (None,) * 5), SIZE)):
            self.assertEqual(raised(least_repair, nested, prices), expected)
        self.assertEqual(len(least_repair(nested, ((1,) * 12, (None,) * 12))[0]), 10)
        # Totals of nested classes can be kept if none of them has three: two may stay.
        self.assertEqual(len(least_repair(nested, ((None,) * 12, (1,) * 12))[1]), 10)
        # Prices that are None are not counted, whether there is a repair or not.
        good = Table(NAMES, ((0, 1),) * 12)
        self.assertEqual(least_repair(good, ((1,) * 12, (None,) * 12)), ((), ()))
        self.assertEqual(raised(least_repair, good, ((1,) * 12, (1,) * 12)), SIZE)

    def test_fewest(self):
        for table in TABLES:
            repairs = repairs_of(table)
            totals, kinds = fewest_totals(table), fewest_kinds(table)
            self.assertIs(is_repair(table, ((), totals)), True)
            self.assertIs(is_repair(table, (kinds, ())), True)
            self.assertEqual(len(totals), min(len(part[1]) for part in repairs if not part[0]))
            self.assertEqual(len(kinds), min(len(part[0]) for part in repairs if not part[1]))
            self.assertEqual((len(totals) == 0, len(kinds) == 0), (is_good(table), is_good(table)))
        self.assertEqual((len(fewest_totals(table=TABLE)), len(fewest_kinds(table=TABLE))), (1, 1))
        nested = Table(NAMES, tuple(tuple(range(many)) for many in range(1, 13)))
        self.assertEqual((len(fewest_totals(nested)), len(fewest_kinds(nested))), (10, 10))

    def test_coloured_alike(self):
        rng = random.Random(3)
        tables = TABLES + random_tables(70, 80, most_kinds=5, most_totals=6, sizes=(0, 1, 2, 2, 2), least_kinds=3)
        seen = 0
        for table in tables:
            totals = plain_totals(table)
            alike_lots = []
            for colours in product((1, -1), repeat=len(plain_classes(table))):
                right = tuple(at for at, total in enumerate(totals)
                              if len(total) == 2 and colours[total[0]] == colours[total[1]])
                if rng.random() < 0.3:
                    self.assertEqual(coloured_alike(table, colours), right)
                alike_lots.append(right)
            if all(len(total) <= 2 for total in totals):
                seen += 1
                for lot in sorted(set(alike_lots)):
                    self.assertIs(is_repair(table, ((), lot)), True)
                self.assertEqual(min(map(len, alike_lots)), len(fewest_totals(table)))
        self.assertGreater(seen, 50)
        self.assertEqual(coloured_alike(colours=(1, 1, -1), table=ring_table(3)), (0,))

    def test_parts_of_fit_parts_are_fit(self):
        for table in TABLES[::3]:
            right = set(repairs_of(table))
            for kinds, totals in rng_sample(right, 40):
                for kind in range(len(table.kinds)):
                    more = (tuple(sorted(set(kinds) | {kind})), totals)
                    self.assertIn(more, right)
                    if len(more[0]) < len(table.kinds):
                        left = tuple(one for one in range(len(table.kinds)) if one not in more[0])
                        self.assertTrue(is_good(part_table(table, left, tuple(
                            at for at in range(len(table.totals)) if at not in totals))))


def rng_sample(some, many):
    return random.Random(9).sample(sorted(some), min(many, len(some)))


if __name__ == "__main__":
    unittest.main()
