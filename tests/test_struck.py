"""Promise [73]: strikes that are not endured."""

import random
import unittest
from fractions import Fraction
from itertools import product

from centsatonce.attacks import is_attack, mirrored
from centsatonce.struck import deeds_on_ways, is_strike_attack, strike_attack
from centsatonce.tables import Table
from tests.helpers import NAMES, Rude, Yes, deep_tuple, exact, odd_values, raised, random_tables, with_swapped
from tests.test_spoils import ring_table

TABLES = random_tables(73, 150, most_kinds=5, most_totals=4)
ONE = Table(("cup",), ((0,),))
TWO = Table(("cup", "tea"), ((0,),))
HALF = (1, 2)
OFF = ("off", 0)


def all_ways(table, tree, reach, standing=(), deeds=()):
    """Yield for each way its lines and strikes, the standing lines and the total told; None if it is wrong."""
    if tree[0] == "off":
        yield deeds, standing, tree[1]
    elif tree[0] == "strike":
        if tree[1] >= min(reach, len(standing)):
            yield None
            return
        at = len(standing) - 1 - tree[1]
        yield from all_ways(table, tree[2], reach, standing[:at] + standing[at + 1:], deeds + ("strike",))
    else:
        for whole in (0, 1):
            line = (tree[1], whole - exact(tree[2]))
            yield from all_ways(table, tree[4 - whole], reach, standing + (line,), deeds + ("line",))


def is_plain_attack(table, tree, reach):
    """Whether a tree of the right form is a strike attack, by walking all ways."""
    ways = list(all_ways(table, tree, reach))
    if None in ways or count(tree) > 60 or any(len(deeds) > 20 for deeds, _, _ in ways):
        return False
    return all(abs(sum((error for kind, error in standing if kind in table.totals[total]), Fraction(0))) >= 1
               for _, standing, total in ways)


def count(tree):
    """The number of all lines and strikes."""
    return 0 if tree[0] == "off" else 1 + sum(count(part) for part in tree[2:] if part[0] in ("off", "line", "strike"))


def halves_of(tree):
    if tree[0] == "off":
        return set()
    return halves_of(tree[2]) if tree[0] == "strike" else {tree[2]} | halves_of(tree[3]) | halves_of(tree[4])


class Attacks(unittest.TestCase):

    def test_all_tables(self):
        for table in TABLES + [ring_table(5), Table(NAMES, ((), tuple(range(12))))]:
            for reach in (2, 3, 4, 9, 10 ** 30):
                if not any(table.totals):
                    self.assertEqual(raised(strike_attack, table, reach), ("Refused", {"word": "class"}))
                    continue
                tree = strike_attack(table, reach)
                self.assertIs(is_strike_attack(table, reach, tree), True)
                self.assertTrue(is_plain_attack(table, tree, reach))
                self.assertEqual(halves_of(tree), {HALF})
                lines, strikes = deeds_on_ways(tree)
                self.assertLessEqual(lines, 4 if reach == 2 else 3)
                self.assertLessEqual(strikes, 2 if reach == 2 else 1)

    def test_no_class(self):
        for table in (Table(("cup",), ()), Table(("cup", "tea"), ((), ()))):
            self.assertEqual(raised(strike_attack, table, 2), ("Refused", {"word": "class"}))

    def test_deeds_on_ways(self):
        rng = random.Random(1)
        for table in TABLES:
            if any(table.totals):
                tree = self.random_tree(rng, table, rng.randint(0, 5))
                ways = list(all_ways(table, tree, 99))
                if None in ways:
                    continue
                self.assertEqual(deeds_on_ways(tree), (max(deeds.count("line") for deeds, _, _ in ways),
                                                       max(deeds.count("strike") for deeds, _, _ in ways)))
        self.assertEqual(deeds_on_ways(tree=OFF), (0, 0))
        # The most lines and the most strikes need not be on one way.
        tree = ("line", 0, HALF, ("line", 0, HALF, OFF, OFF), ("strike", 0, OFF))
        self.assertEqual(deeds_on_ways(tree), (2, 1))

    def random_tree(self, rng, table, many):
        if not many or rng.random() < 0.2:
            return ("off", rng.randrange(len(table.totals)))
        if rng.random() < 0.35:
            return ("strike", rng.randint(0, 2), self.random_tree(rng, table, many - 1))
        return ("line", rng.randrange(len(table.kinds)), HALF, self.random_tree(rng, table, many - 1),
                self.random_tree(rng, table, many - 1))

    def test_examples(self):
        self.assertEqual((deeds_on_ways(strike_attack(ONE, 2)), deeds_on_ways(strike_attack(ONE, 3))), ((4, 2), (3, 1)))
        self.assertEqual(strike_attack(reach=3, table=ONE), strike_attack(ONE, 3))
        self.assertIs(is_strike_attack(value=strike_attack(ONE, 3), reach=3, table=ONE), True)
        self.assertIs(is_strike_attack(ONE, 2, strike_attack(ONE, 3)), False)
        self.assertIs(is_strike_attack(ONE, 3, strike_attack(ONE, 2)), True)

    def test_attacks_without_strikes(self):
        ring = ring_table(3)
        up = ("line", 0, HALF, ("off", 0), ("line", 2, HALF, ("off", 1), ("off", 2)))
        attack = ("line", 1, HALF, up, mirrored(up))
        self.assertIs(is_attack(ring, attack), True)
        self.assertIs(is_strike_attack(ring, 2, attack), True)
        self.assertIs(is_strike_attack(ring, 2, up), False)


class AnyValue(unittest.TestCase):

    def test_random_trees(self):
        rng = random.Random(2)
        seen = {True: 0, False: 0}
        for _ in range(60):
            for reach in (2, 3):
                tree = self.spoilt(rng, strike_attack(ONE, reach))
                right = is_plain_attack(ONE, tree, reach)
                self.assertIs(is_strike_attack(ONE, reach, tree), right)
                seen[right] += 1
        maker = Attacks()
        for table in TABLES:
            if any(table.totals):
                tree = maker.random_tree(rng, table, 4)
                self.assertIs(is_strike_attack(table, 2, tree), is_plain_attack(table, tree, 2))
        self.assertGreater(min(seen.values()), 10)

    def spoilt(self, rng, tree):
        """A tree with some other fraction or number of lines behind, or none."""
        if tree[0] == "off" or rng.random() < 0.1:
            return tree if rng.random() < 0.9 else ("strike", 0, tree)
        if tree[0] == "strike":
            return ("strike", tree[1] if rng.random() < 0.9 else rng.randint(0, 3), self.spoilt(rng, tree[2]))
        fraction = HALF if rng.random() < 0.95 else rng.choice(((1, 3), (2, 5), (2, 3)))
        return ("line", tree[1], fraction, self.spoilt(rng, tree[3]), self.spoilt(rng, tree[4]))

    def test_reach(self):
        # Up, down, up: the one in the middle has one behind it.
        third = ("line", 0, HALF, ("strike", 1, OFF), ("strike", 2, OFF))
        second = ("line", 0, HALF, OFF, third)
        first = ("line", 0, HALF, second, mirror(second))
        for reach, right in ((2, False), (3, True), (4, True), (10 ** 9, True)):
            self.assertIs(is_strike_attack(ONE, reach, first), right)
        for back in (-1, 3, 7, True, 1.0, None):
            wrong = ("line", 0, HALF, OFF, ("line", 0, HALF, ("strike", 1, OFF), ("strike", back, OFF)))
            self.assertIs(is_strike_attack(ONE, 9, ("line", 0, HALF, wrong, mirror(second))), False)
        self.assertIs(is_strike_attack(ONE, 9, ("strike", 0, OFF)), False)

    def with_leaf(self, leaf):
        """A strike attack of nine deeds one way of which goes on, behind its two lines, with a tree."""
        word, kind, fraction, high, low = strike_attack(TWO, 3)
        self.assertEqual((high[3], count((word, kind, fraction, high, low))), (OFF, 9))
        return (word, kind, fraction, high[:3] + (leaf,) + high[4:], low)

    def chain(self, many):
        """So many lines and strikes on one way, none of them of a total."""
        if many == 0:
            return OFF
        if many % 2:
            return ("line", 1, (1, 3), self.chain(many - 1), OFF)
        return ("line", 1, (1, 3), OFF, ("strike", 0, self.chain(many - 2)))

    def bush(self, many):
        """So many lines of no total, none of them with many on a way."""
        if many == 0:
            return OFF
        return ("line", 1, HALF, self.bush(many // 2), self.bush(many - 1 - many // 2))

    def test_most_on_a_way(self):
        for many, right in ((0, True), (17, True), (18, True), (19, False), (20, False), (40, False)):
            tree = self.with_leaf(self.chain(many))
            self.assertIs(is_strike_attack(TWO, 3, tree), right)
            self.assertIs(is_plain_attack(TWO, tree, 3), right)
        self.assertEqual(deeds_on_ways(self.with_leaf(self.chain(18))), (11, 9))
        deep = OFF
        for _ in range(5000):
            deep = ("strike", 0, ("line", 1, HALF, deep, OFF))
        self.assertIs(is_strike_attack(TWO, 3, self.with_leaf(deep)), False)

    def test_most_in_all(self):
        for many, right in ((1, True), (50, True), (51, True), (52, False), (53, False), (90, False)):
            tree = self.with_leaf(self.bush(many))
            self.assertEqual(count(tree), 9 + many)
            self.assertLess(sum(deeds_on_ways(tree)), 20)
            self.assertIs(is_strike_attack(TWO, 3, tree), right)

    def test_deeds_count_as_often_as_they_stand(self):
        tree = OFF
        for height in range(1, 19):
            tree = ("line", 1, HALF, tree, tree)
            self.assertIs(is_strike_attack(TWO, 3, self.with_leaf(tree)), 2 ** height - 1 <= 51)

    def test_nearly_trees(self):
        right = strike_attack(ONE, 2)
        for wrong in [("off", 1), ("off", -1), ("off", False), ("off",), ("off", 0, 0), ["off", 0], ("Off", 0), "off", None,
                      ("strike", 0), ("strike", 0, OFF, OFF), ("strike", -1, OFF), ("line", 0, HALF, OFF), (), 0,
                      ("line", 1, HALF, OFF, OFF), ("line", 0, (1, 1), OFF, OFF), ("line", 0, (0, 1), OFF, OFF),
                      ("line", 0, (2, 4), OFF, OFF), ("line", 0, (3, 2), OFF, OFF), ("line", 0, (-1, 2), OFF, OFF)]:
            self.assertIs(is_strike_attack(ONE, 2, wrong), False)
            self.assertIs(is_strike_attack(ONE, 2, right[:3] + (wrong, right[4])), False)
            self.assertIs(is_strike_attack(ONE, 2, right[:4] + (wrong,)), False)
        self.assertIs(is_strike_attack(ONE, 2, OFF), False)

    def test_other_values(self):
        right = strike_attack(ONE, 2)
        for value in odd_values():
            self.assertIs(is_strike_attack(ONE, 2, value), False)
        for other in (True, False, None, 1.0, "1", [], Rude(), Yes(), 7, -2, deep_tuple(2000)):
            for value in with_swapped(right, other):
                self.assertIs(is_strike_attack(ONE, 2, value), False)

    def test_fractions_of_any_size(self):
        tiny = (1, 10 ** 3000)
        tree = ("line", 0, tiny, ("line", 0, tiny, OFF, ("strike", 0, OFF)), OFF)
        self.assertIs(is_strike_attack(ONE, 2, tree), False)
        self.assertIs(is_strike_attack(ONE, 2, ("line", 0, (1, 2), ("line", 0, (1, 2), OFF, OFF), OFF)), False)


def mirror(tree):
    """A tree of halves with up and down exchanged."""
    if tree[0] == "off":
        return tree
    if tree[0] == "strike":
        return ("strike", tree[1], mirror(tree[2]))
    return ("line", tree[1], tree[2], mirror(tree[4]), mirror(tree[3]))


if __name__ == "__main__":
    unittest.main()
