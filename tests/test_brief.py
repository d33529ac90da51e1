"""Promise [40]: brief attacks by knots."""

import unittest
from itertools import combinations, product

from centsatonce.attacks import attack_day, beaten_total, height_of, is_attack
from centsatonce.brief import attack_by, brief_spoiling, shortest_ring
from centsatonce.court import court, is_good
from centsatonce.derivations import is_derivation
from centsatonce.knots import is_knot, odd_ring
from centsatonce.tables import Table
from tests.helpers import NAMES, errors_by_total, kind_errors, random_tables
from tests.test_derivations import plain_reckonings
from tests.test_forcing import plain_depth
from tests.test_spoils import RING, TABLES, all_rings, ring_table, three_knots


def least_power(many):
    """The least h with 2 to the power of h not below a number."""
    return next(h for h in range(10) if 2 ** h >= many)


def all_knots(table):
    return three_knots(table)[:8] + all_rings(table, 11)[:8]


def halves_of(tree):
    """All fractions of a tree."""
    return set() if tree[0] == "off" else {tree[2]} | halves_of(tree[3]) | halves_of(tree[4])


def walk_all(test, table, attack):
    """Walk all ways of an attack from no errors."""
    for ups in product((0, 1), repeat=height_of(attack)):
        day = attack_day(attack, ups)
        error = errors_by_total(table, kind_errors(table, day))[beaten_total(attack, ups)]
        test.assertGreaterEqual(abs(error), 1)


class Brief(unittest.TestCase):

    def check(self, table, knot):
        most = 3 if knot.word == "three" else least_power(len(knot.at))
        steps = brief_spoiling(table, knot)
        self.assertIs(is_derivation(table, steps), True)
        self.assertTrue(any(abs(entry) > 1 for entry in plain_reckonings(table, steps)[-1]))
        depths = [plain_depth(steps, at) for at in range(len(steps))]
        self.assertLessEqual(depths[-1], most)
        self.assertEqual(max(depths), depths[-1])
        attack = attack_by(table, knot)
        self.assertIs(is_attack(table, attack), True)
        self.assertEqual(halves_of(attack), {(1, 2)})
        self.assertLessEqual(height_of(attack), most + 1)
        return attack

    def test_all_knots(self):
        heights = set()
        for table in TABLES:
            for knot in all_knots(table):
                attack = self.check(table, knot)
                walk_all(self, table, attack)
                heights.add((knot.word, height_of(attack)))
        self.assertIn(("three", 4), heights)
        self.assertIn(("ring", 3), heights)

    def test_long_rings(self):
        for many in (3, 5, 7, 9, 11):
            table = ring_table(many)
            for knot in all_rings(table, 11):
                attack = self.check(table, knot)
            walk_all(self, table, attack)
            self.assertEqual(height_of(attack), least_power(many) + 1)
            more = ring_table(many, ((0,), (1,))[:12 - many])
            self.check(more, court(more))

    def test_examples(self):
        attack = attack_by(knot=court(RING), table=RING)
        self.assertEqual(height_of(attack), 3)
        self.assertEqual(brief_spoiling(knot=court(RING), table=RING), brief_spoiling(RING, court(RING)))


class Rings(unittest.TestCase):

    def test_shortest(self):
        lengths = set()
        tables = TABLES + random_tables(40, 300, most_kinds=8, most_totals=10, sizes=(2, 2, 2, 1), least_kinds=5)
        for table in tables:
            rings = all_rings(table, 9)
            found = shortest_ring(table)
            self.assertIs(found is None, odd_ring(table) is None)
            if found is None:
                self.assertEqual(rings, [])
                continue
            self.assertIs(is_knot(table, found), True)
            self.assertEqual(found.word, "ring")
            self.assertEqual(len(found.at), min(len(ring.at) for ring in rings))
            lengths.add(len(found.at))
        self.assertLessEqual({3, 5}, lengths)

    def test_a_long_ring_and_a_short_one(self):
        for one, other in combinations(range(11), 2):
            # A chord makes two rings, of which one is odd.
            length = other - one + 1 if (other - one) % 2 == 0 else 12 - (other - one)
            table = ring_table(11, ((one, other),))
            self.assertEqual(len(shortest_ring(table).at), min(length, 11))
            self.assertIs(is_knot(table, shortest_ring(table)), True)
        self.assertEqual(len(shortest_ring(table=ring_table(11)).at), 11)

    def test_none(self):
        for table in (ring_table(4), ring_table(12), Table(NAMES, ()), Table(("a", "b", "c"), ((0,), (0, 1), (0, 1, 2)))):
            self.assertIsNone(shortest_ring(table))
        self.assertIs(is_good(ring_table(12)), True)


if __name__ == "__main__":
    unittest.main()
