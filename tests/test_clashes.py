"""Promises [66] and [67]: clashes."""

import random
import unittest
from itertools import combinations

from centsatonce.clashes import all_clashes, harmless, is_clash, part_table, some_clash
from centsatonce.court import is_good
from centsatonce.tables import Table
from tests.helpers import NAMES, Rude, Yes, deep_tuple, every_table, is_good_table, odd_values, raised, random_tables
from tests.helpers import with_swapped
from tests.test_spoils import ring_table

TABLES = random_tables(66, 110, most_kinds=5, most_totals=5, sizes=(1, 2, 2, 2, 3, 4))
TABLE = Table(("a", "b", "c", "d"), ((0,), (0, 1), (0, 1, 2, 3)))
RING = Table(("cup", "jam", "tea"), ((0, 1), (1, 2), (0, 2)))
SIZE = ("Refused", {"word": "size"})


def lots_of(many):
    """All lots of numbers below a bound."""
    return [lot for size in range(many + 1) for lot in combinations(range(many), size)]


def plain_part_table(table, kinds, totals):
    names = tuple(table.kinds[kind] for kind in kinds)
    return Table(names, tuple(tuple(kinds.index(kind) for kind in table.totals[at] if kind in kinds) for at in totals))


def fit_parts(table):
    """A dict from all parts to whether they are fit."""
    return {(kinds, totals): not kinds or is_good_table(plain_part_table(table, kinds, totals))
            for kinds in lots_of(len(table.kinds)) for totals in lots_of(len(table.totals))}


def plain_clashes(fit):
    """All clashes, by trying all parts."""
    found = []
    for part, right in fit.items():
        if not right:
            kinds, totals = part
            fewer = [(tuple(set(kinds) - {kind}), totals) for kind in kinds]
            fewer += [(kinds, tuple(set(totals) - {at})) for at in totals]
            if all(fit[tuple(sorted(one)), tuple(sorted(other))] for one, other in fewer):
                found.append(part)
    return tuple(sorted(found))


class Parts(unittest.TestCase):

    def test_part_tables(self):
        for table in TABLES[:40]:
            for kinds in lots_of(len(table.kinds))[1:]:
                for totals in lots_of(len(table.totals)):
                    self.assertEqual(part_table(table, kinds, totals), plain_part_table(table, kinds, totals))
        self.assertEqual(part_table(totals=(0, 2), kinds=(1, 3), table=TABLE), Table(("b", "d"), ((), (0, 1))))
        self.assertEqual(part_table(TABLE, (0,), ()), Table(("a",), ()))

    def test_parts_of_fit_parts_are_fit(self):
        for table in TABLES[:40]:
            fit = fit_parts(table)
            for (kinds, totals), right in fit.items():
                if right:
                    for at in range(len(kinds)):
                        self.assertTrue(fit[kinds[:at] + kinds[at + 1:], totals])
                    for at in range(len(totals)):
                        self.assertTrue(fit[kinds, totals[:at] + totals[at + 1:]])


class Clashes(unittest.TestCase):

    def test_all_parts(self):
        seen = set()
        for table in TABLES + [ring_table(5)]:
            fit = fit_parts(table)
            clashes = plain_clashes(fit)
            self.assertEqual(all_clashes(table), clashes)
            for part in fit:
                self.assertIs(is_clash(table, part), part in clashes)
            self.assertIs(is_good(table), not clashes)
            found = some_clash(table)
            self.assertIs(found is None, not clashes)
            if clashes:
                self.assertIn(found, clashes)
            harmed = {kind for kinds, _ in clashes for kind in kinds}, {at for _, totals in clashes for at in totals}
            self.assertEqual(harmless(table), (tuple(kind for kind in range(len(table.kinds)) if kind not in harmed[0]),
                                               tuple(at for at in range(len(table.totals)) if at not in harmed[1])))
            for kinds, totals in clashes:
                seen.add(self.check_form(table, kinds, totals))
        self.assertEqual(seen, {"three", "ring 3", "ring 5"})

    def check_form(self, table, kinds, totals):
        self.assertEqual(len(kinds), len(totals))
        self.assertEqual(len(kinds) % 2, 1)
        self.assertGreaterEqual(len(kinds), 3)
        shares = [tuple(kind for kind in table.totals[at] if kind in kinds) for at in totals]
        for share in shares:
            others = [one for one in shares if one is not share]
            rows = {tuple(kind in one for one in others) for kind in kinds}
            if len(kinds) == 3 and share == kinds and len(rows) == 3:
                return "three"
        self.assertTrue(all(len(share) == 2 for share in shares))
        self.assertTrue(all(sum(kind in share for share in shares) == 2 for kind in kinds))
        at, last, along = kinds[0], None, 0
        while along == 0 or at != kinds[0]:
            share = next(number for number, share in enumerate(shares) if at in share and number != last)
            at, last, along = sum(shares[share]) - at, share, along + 1
        self.assertEqual(along, len(kinds))
        return "ring " + str(along)

    def test_small_tables(self):
        for table in every_table(3, 3):
            clashes = plain_clashes(fit_parts(table))
            self.assertEqual(all_clashes(table), clashes)
            self.assertIs(some_clash(table) is None, not clashes)

    def test_examples(self):
        self.assertEqual((all_clashes(TABLE), is_clash(TABLE, ((0, 1, 2, 3), (0, 1, 2)))),
                         ((((0, 1, 2), (0, 1, 2)), ((0, 1, 3), (0, 1, 2))), False))
        self.assertEqual(all_clashes(table=RING), (((0, 1, 2), (0, 1, 2)),))
        self.assertEqual(some_clash(table=RING), ((0, 1, 2), (0, 1, 2)))
        self.assertIs(is_clash(value=((0, 1, 2), (0, 1, 2)), table=RING), True)
        self.assertEqual(harmless(table=TABLE), ((), ()))
        self.assertEqual(harmless(Table(("a", "b", "c", "d"), RING.totals + ((), (3,)))), ((3,), (3, 4)))
        bare = Table(("cup",), ())
        self.assertEqual((all_clashes(bare), some_clash(bare), harmless(bare)), ((), None, ((0,), ())))

    def test_rings(self):
        for many in (3, 5, 7):
            part = (tuple(range(many)), tuple(range(many)))
            self.assertEqual(all_clashes(ring_table(many)), (part,))
            self.assertEqual(some_clash(ring_table(many)), part)
        for many in (3, 5, 7, 9, 11):
            part = (tuple(range(many)), tuple(range(many)))
            self.assertIs(is_clash(ring_table(many), part), True)
            self.assertEqual(some_clash(ring_table(many)), part)
        for many in (4, 6, 8, 12):
            self.assertIsNone(some_clash(ring_table(many)))
        self.assertEqual(all_clashes(ring_table(6)), ())

    def test_two_rings_of_three_are_no_clash_of_six(self):
        table = Table(NAMES[:6], ((0, 1), (1, 2), (0, 2), (3, 4), (4, 5), (3, 5)))
        self.assertEqual(all_clashes(table), (((0, 1, 2), (0, 1, 2)), ((3, 4, 5), (3, 4, 5))))
        table = Table(NAMES[:7], ((0, 1), (1, 2), (2, 3), (0, 3), (4, 5), (5, 6), (4, 6)))
        self.assertEqual(all_clashes(table), (((4, 5, 6), (4, 5, 6)),))

    def test_large_tables(self):
        rng = random.Random(1)
        for _ in range(12):
            totals = tuple(tuple(sorted(rng.sample(range(8), rng.choice((2, 2, 2, 3, 4, 5))))) for _ in range(8))
            table = Table(NAMES[:8], totals)
            clashes = all_clashes(table)
            self.assertEqual(list(clashes), sorted(set(clashes)))
            for part in rng.sample(clashes, min(8, len(clashes))):
                self.assertIs(is_clash(table, part), True)
                self.check_form(table, *part)
            self.assertIn(some_clash(table), clashes or (None,))
        for _ in range(20):
            totals = tuple(tuple(sorted(rng.sample(range(12), rng.choice((1, 2, 2, 3, 6))))) for _ in range(12))
            table = Table(NAMES, totals)
            found = some_clash(table)
            self.assertIs(found is None, is_good(table))
            self.assertIs(is_clash(table, found), found is not None)

    def test_limits(self):
        totals = ((0, 1), (1, 2), (0, 2))
        for kinds, many, refused in ((8, 8, False), (9, 3, True), (8, 9, True), (12, 12, True), (3, 9, True), (9, 0, True)):
            table = Table(NAMES[:kinds], (totals * 4)[:many])
            for call in (all_clashes, harmless):
                self.assertEqual(raised(call, table), SIZE if refused else None)


class AnyValue(unittest.TestCase):

    def test_nearly_clashes(self):
        right = ((0, 1, 2), (0, 1, 2))
        for value in [((0, 1), (0, 1, 2)), ((0, 1, 2), (0, 1)), ((0, 1, 2), (0, 2, 1)), ((0, 1, 2, 2), (0, 1, 2)),
                      ((0, 1, 3), (0, 1, 2)), ((0, 1, 2), (0, 1, 3)), ([0, 1, 2], (0, 1, 2)), [(0, 1, 2), (0, 1, 2)],
                      right + ((),), right[:1], ((), ()), ((), (0, 1, 2)), ((0, 1, 2), ()), ((0, True, 2), (0, 1, 2)),
                      ((False, 1, 2), (0, 1, 2)), ((0, 1, 2.0), (0, 1, 2)), ((-1, 0, 1, 2), (0, 1, 2)), (0, 1, 2), ()]:
            self.assertIs(is_clash(RING, value), False)
        more = Table(("a", "b", "c", "d"), RING.totals + ((0, 3),))
        self.assertIs(is_clash(more, right), True)
        for value in (((0, 1, 2, 3), (0, 1, 2)), ((0, 1, 2), (0, 1, 2, 3)), ((0, 1, 2, 3), (0, 1, 2, 3))):
            self.assertIs(is_clash(more, value), False)

    def test_other_values(self):
        right = ((0, 1, 2), (0, 1, 2))
        for value in odd_values():
            self.assertIs(is_clash(RING, value), False)
            self.assertIs(is_clash(RING, (value, right[1])), False)
            self.assertIs(is_clash(RING, (right[0], value)), False)
        for other in (True, False, None, 1.0, "1", [], Rude(), Yes(), 7, -2, deep_tuple(2000)):
            for value in with_swapped(right, other):
                self.assertIs(is_clash(RING, value), False)


if __name__ == "__main__":
    unittest.main()
