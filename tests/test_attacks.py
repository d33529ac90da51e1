"""Promise [38], with [20]: attacks."""

import random
import unittest
from fractions import Fraction
from itertools import product

from centsatonce.attacks import attack_day, beaten_total, count_lines, height_of, is_attack, is_attack_from, mirrored
from centsatonce.attacks import shortened
from centsatonce.tables import Table
from tests.helpers import Rude, Yes, deep_tuple, errors_by_total, exact, odd_values, random_fraction, random_tables, told
from tests.helpers import with_swapped

HALF = (1, 2)
RING = Table(("cup", "jam", "tea"), ((0, 1), (1, 2), (0, 2)))
UP = ("line", 0, HALF, ("off", 0), ("line", 2, HALF, ("off", 1), ("off", 2)))
ATTACK = ("line", 1, HALF, UP, mirrored(UP))
ONE = Table(("cup",), ((0,),))
NONE = ((0, 1),)
EDGE = ((999, 1000),)


def plain_beats(table, errors, tree):
    """Whether at the end of each way the total told there is off, with Fractions."""
    if tree[0] == "off":
        return abs(errors_by_total(table, errors)[tree[1]]) >= 1
    for whole, below in ((1, tree[3]), (0, tree[4])):
        behind = list(errors)
        behind[tree[1]] += whole - exact(tree[2])
        if not plain_beats(table, behind, below):
            return False
    return True


def random_tree(rng, table, height):
    """Some tree, whether it beats a clerk or not."""
    if height == 0 or rng.random() < 0.25:
        return ("off", rng.randrange(len(table.totals)))
    bottom = rng.choice((2, 3, 4, 5, 1000))
    part = told(Fraction(rng.randint(1, bottom - 1), bottom))
    return ("line", rng.randrange(len(table.kinds)), part, random_tree(rng, table, height - 1),
            random_tree(rng, table, height - 1))


def some_attack(rng, table, errors, height, longer=0.0):
    """Some attack of halves from errors with at most a height, None if none is found."""
    off = [at for at, error in enumerate(errors_by_total(table, errors)) if abs(error) >= 1]
    if off and rng.random() >= longer:
        return ("off", rng.choice(off))
    if height == 0:
        return ("off", rng.choice(off)) if off else None
    kinds = list(range(len(table.kinds)))
    rng.shuffle(kinds)
    for kind in kinds:
        parts = []
        for whole in (1, 0):
            behind = list(errors)
            behind[kind] += whole - Fraction(1, 2)
            parts.append(some_attack(rng, table, behind, height - 1, longer))
        if None not in parts:
            return ("line", kind, HALF, *parts)
    return ("off", rng.choice(off)) if off else None


def some_attacks(seed):
    """Tables and errors, each with some attack of a few lines, perhaps longer than needed."""
    rng = random.Random(seed)
    found = []
    for table in random_tables(seed, 200, most_kinds=4, most_totals=5, sizes=(1, 2, 2, 3)):
        errors = tuple(random_fraction(rng, 3, (2, 3, 4)) for _ in table.kinds)
        attack = some_attack(rng, table, [exact(error) for error in errors], 3, rng.choice((0, 0.5)))
        if attack is not None:
            found.append((table, errors, attack))
    return found


def chain(many, fraction=HALF):
    """A tree of so many lines on one way of the single kind, each rounded down; up, it ends at once."""
    tree = ("off", 0)
    for _ in range(many):
        tree = ("line", 0, fraction, ("off", 0), tree)
    return tree


class AnyValue(unittest.TestCase):

    def test_trees(self):
        rng = random.Random(1)
        seen = {True: 0, False: 0}
        for table in random_tables(38, 400, most_kinds=3, most_totals=3, sizes=(1, 2, 2, 3)):
            if not table.totals:
                continue
            errors = tuple(random_fraction(rng, 4, (1, 2, 3)) for _ in table.kinds)
            for height in (0, 1, 1, 2, 3):
                tree = random_tree(rng, table, height)
                right = plain_beats(table, [exact(error) for error in errors], tree)
                self.assertIs(is_attack_from(table, errors, tree), right)
                self.assertIs(is_attack(table, tree), plain_beats(table, [Fraction(0)] * len(table.kinds), tree))
                seen[right] += 1
        self.assertGreater(min(seen.values()), 100)

    def test_attacks(self):
        found = some_attacks(39)
        self.assertGreater(len(found), 80)
        for table, errors, attack in found:
            self.assertIs(is_attack_from(table, errors, attack), True)
            zeros = all(top == 0 for top, _ in errors)
            self.assertTrue(not zeros or is_attack(table, attack))

    def test_example(self):
        self.assertEqual((is_attack(RING, ATTACK), is_attack(RING, UP), height_of(ATTACK), beaten_total(ATTACK, (1, 0, 1))),
                         (True, False, 3, 1))
        self.assertEqual(attack_day(ATTACK, (1, 0, 1)), ((1, HALF, 1), (0, HALF, 0), (2, HALF, 1)))
        self.assertIs(is_attack_from(RING, ((0, 1), HALF, (0, 1)), UP), True)
        self.assertIs(is_attack(value=ATTACK, table=RING), True)
        self.assertIs(is_attack_from(value=UP, errors=((0, 1), HALF, (0, 1)), table=RING), True)

    def test_one_is_off(self):
        for error, right in (((1, 1), True), ((-1, 1), True), ((3, 2), True), ((-3, 2), True), ((999, 1000), False),
                             ((-999, 1000), False), ((0, 1), False)):
            self.assertIs(is_attack_from(ONE, (error,), ("off", 0)), right)

    def test_each_way_counts(self):
        self.assertIs(is_attack_from(ONE, (HALF,), ("line", 0, HALF, ("off", 0), ("off", 0))), False)
        tree = ("line", 0, HALF, ("off", 0), ("line", 0, (1, 3), ("off", 0), ("off", 0)))
        self.assertIs(is_attack_from(ONE, (HALF,), tree), False)
        two = Table(("a", "b"), ((0,), (1,)))
        self.assertIs(is_attack_from(two, ((1, 1), (0, 1)), ("off", 0)), True)
        self.assertIs(is_attack_from(two, ((1, 1), (0, 1)), ("off", 1)), False)

    def test_most_on_a_way(self):
        far = ((100, 1),)
        for many, right in ((0, True), (39, True), (40, True), (41, False), (42, False), (100, False)):
            self.assertIs(is_attack_from(ONE, far, chain(many)), right)
            self.assertIs(is_attack_from(ONE, far, mirrored(chain(many)) if many < 101 else None), right)
        self.assertIs(is_attack_from(ONE, far, chain(5000)), False)

    def bush(self, many):
        """A tree of so many lines, none of them with more than 8 on a way."""
        if many == 0:
            return ("off", 0)
        return ("line", 0, HALF, self.bush(many // 2), self.bush(many - 1 - many // 2))

    def test_most_lines(self):
        far = ((100, 1),)
        for many, right in ((148, True), (149, True), (150, True), (151, False), (152, False), (300, False)):
            tree = self.bush(many)
            self.assertEqual(count_lines(tree), many)
            self.assertLess(height_of(tree), 10)
            self.assertIs(is_attack_from(ONE, far, tree), right)

    def test_lines_count_as_often_as_they_stand(self):
        tree = ("off", 0)
        for height in range(1, 40):
            tree = ("line", 0, HALF, tree, tree)
            self.assertIs(is_attack_from(ONE, ((100, 1),), tree), height <= 7)

    def test_fractions_of_any_size(self):
        huge = 10 ** 3999
        low, high = (1, huge), (huge - 1, huge)
        tree = ("line", 0, low, ("off", 0), ("line", 0, high, ("off", 0), ("off", 0)))
        self.assertIs(is_attack_from(ONE, (low,), ("line", 0, low, ("off", 0), ("off", 0))), False)
        self.assertIs(is_attack_from(ONE, ((huge + 1, huge),), ("line", 0, low, ("off", 0), ("off", 0))), True)
        self.assertIs(is_attack_from(ONE, ((2 * huge + 1, huge),), tree), True)
        self.assertIs(is_attack_from(ONE, ((2 * huge - 1, huge),), tree), False)

    def test_wrong_trees(self):
        far = ((9, 1),)
        good = ("off", 0)
        self.assertIs(is_attack_from(ONE, far, ("line", 0, HALF, good, good)), True)
        for fraction in [(0, 1), (1, 1), (-1, 2), (3, 2), (2, 4), (0, 2), (1, 0), (1, -2), (-1, -2), (True, 2), (1, 2.0),
                         [1, 2], (1, 2, 3), None, 0.5, "1/2", Rude(), (1, Rude()), (Yes(), 2), Fraction(1, 2)] + odd_values():
            self.assertIs(is_attack_from(ONE, far, ("line", 0, fraction, good, good)), False)
        for tree in [("off",), ("off", 1), ("off", -1), ("off", True), ("off", False), ("off", 0, 0), ["off", 0], "off", None,
                     ("Off", 0), ("off", "0"), ("off", 0.0), (b"off", 0), ("line", 0, HALF, good), (), ("line",),
                     ("line", 0, HALF, good, good, good), ("line", 1, HALF, good, good), ("line", False, HALF, good, good),
                     ("line", 0.0, HALF, good, good), ["line", 0, HALF, good, good], ("off", 0, HALF, good, good),
                     ("line", 0), (None, 0), (Rude(), 0), (Yes(), 0), ("off", Rude()), ("off", Yes())] + odd_values():
            for value in (tree, ("line", 0, HALF, good, tree), ("line", 0, HALF, tree, good),
                          ("line", 0, HALF, ("line", 0, HALF, good, good), ("line", 0, HALF, tree, good))):
                self.assertIs(is_attack_from(ONE, far, value), False)
                self.assertIs(is_attack(ONE, value), False)

    def test_swapped_deep_within(self):
        for other in (True, None, [], 1.0, "x", Rude(), Yes(), 9, -1, deep_tuple(3000)):
            for value in with_swapped(ATTACK, other):
                self.assertIs(is_attack(RING, value), False)


class Told(unittest.TestCase):

    def test_heights_and_lines(self):
        self.assertEqual((height_of(("off", 3)), count_lines(("off", 3))), (0, 0))
        self.assertEqual((height_of(attack=ATTACK), count_lines(attack=ATTACK)), (3, 5))
        self.assertEqual((height_of(chain(40)), count_lines(chain(40))), (40, 40))
        self.assertEqual((height_of(mirrored(chain(7))), count_lines(mirrored(chain(7)))), (7, 7))
        rng = random.Random(3)
        for table in random_tables(40, 100):
            if table.totals:
                tree = random_tree(rng, table, 5)
                ways = [attack_day(tree, ups) for ups in product((0, 1), repeat=5)]
                self.assertEqual(height_of(tree), max(map(len, ways)))
                inner = {tuple(whole for _, _, whole in way[:many]) for way in ways for many in range(len(way))}
                self.assertEqual(count_lines(tree), len(inner))

    def test_ways(self):
        rng = random.Random(4)
        for table in random_tables(41, 100):
            if not table.totals:
                continue
            tree = random_tree(rng, table, 5)
            for many in range(7):
                ups = tuple(rng.randint(0, 1) for _ in range(many))
                left, day, at = tree, [], 0
                while left[0] == "line":
                    whole = ups[at] if at < len(ups) else 0
                    day.append((left[1], left[2], whole))
                    left = left[3] if whole else left[4]
                    at += 1
                self.assertEqual(attack_day(tree, ups), tuple(day))
                self.assertEqual(beaten_total(tree, ups), left[1])
        self.assertEqual(attack_day(ups=(), attack=ATTACK), ((1, HALF, 0), (0, HALF, 0)))
        self.assertEqual(beaten_total(ups=(0, 1, 0, 1), attack=ATTACK), 1)
        self.assertEqual(beaten_total(ATTACK, (0, 1, 1)), 2)
        self.assertEqual(attack_day(("off", 2), (1,)), ())

    def test_the_beaten_total_is_off(self):
        for table, errors, attack in some_attacks(42):
            for ups in product((0, 1), repeat=3):
                behind = [exact(error) for error in errors]
                for kind, amount, whole in attack_day(attack, ups):
                    behind[kind] += whole - exact(amount)
                self.assertGreaterEqual(abs(errors_by_total(table, behind)[beaten_total(attack, ups)]), 1)

    def test_mirrored(self):
        rng = random.Random(5)
        for table, errors, attack in some_attacks(43):
            opposite = tuple((-top, bottom) for top, bottom in errors)
            self.assertIs(is_attack_from(table, opposite, mirrored(attack)), True)
        for table in random_tables(44, 80):
            if table.totals:
                tree = random_tree(rng, table, 4)
                self.assertEqual(mirrored(mirrored(tree)), tree)
                self.check_mirror(tree, mirrored(tree))
        self.assertEqual(mirrored(attack=("line", 0, (1, 3), ("off", 0), ("off", 1))),
                         ("line", 0, (2, 3), ("off", 1), ("off", 0)))
        self.assertEqual(mirrored(("off", 2)), ("off", 2))

    def check_mirror(self, tree, mirror):
        if tree[0] == "off":
            self.assertEqual(mirror, tree)
            return
        self.assertEqual(mirror[:2], tree[:2])
        self.assertEqual(mirror[2], told(1 - exact(tree[2])))
        self.check_mirror(tree[3], mirror[4])
        self.check_mirror(tree[4], mirror[3])

    def plain_shortened(self, table, errors, tree):
        off = [at for at, error in enumerate(errors_by_total(table, errors)) if abs(error) >= 1]
        if off:
            return ("off", off[0])
        parts = []
        for whole, below in ((1, tree[3]), (0, tree[4])):
            behind = list(errors)
            behind[tree[1]] += whole - exact(tree[2])
            parts.append(self.plain_shortened(table, behind, below))
        return (*tree[:3], *parts)

    def test_shortened(self):
        changed = 0
        for table, errors, attack in some_attacks(45):
            short = shortened(table, errors, attack)
            self.assertEqual(short, self.plain_shortened(table, [exact(error) for error in errors], attack))
            self.assertIs(is_attack_from(table, errors, short), True)
            self.assertEqual(shortened(table, errors, short), short)
            changed += short != attack
        self.assertGreater(changed, 20)
        self.assertEqual(shortened(attack=chain(3), errors=((5, 1),), table=ONE), ("off", 0))
        two = Table(("a", "b"), ((1,), (0,), (0, 1)))
        tree = ("line", 0, HALF, ("off", 2), ("line", 1, HALF, ("off", 1), ("off", 1)))
        self.assertEqual(shortened(two, ((3, 2), (0, 1)), tree), ("off", 1))


if __name__ == "__main__":
    unittest.main()
