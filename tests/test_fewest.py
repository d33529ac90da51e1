"""Promise [42], with [41]: fewest lines."""

import random
import unittest
from fractions import Fraction

from centsatonce.attacks import count_lines, height_of, is_attack_from
from centsatonce.brief import shortest_ring
from centsatonce.court import is_good
from centsatonce.days import choices
from centsatonce.fewest import least_height, least_lines, quickest_attack, stubborn, stubborn_day
from centsatonce.halves import fewest_lines
from centsatonce.levels import levels_of
from centsatonce.knots import three_totals
from centsatonce.tables import Table
from tests.helpers import NAMES, every_table, exact, is_good_table, plain_classes, plain_totals, raised, random_fraction
from tests.helpers import random_lines, random_tables, told
from tests.test_brief import least_power
from tests.test_spoils import ring_table

TABLES = random_tables(42, 150, most_kinds=5, most_totals=5, sizes=(0, 1, 2, 2, 3))
SMALL = [table for table in random_tables(43, 120, most_kinds=3, most_totals=4) if plain_classes(table)]
RING = Table(("cup", "jam", "tea"), ((0, 1), (1, 2), (0, 2)))
TABLE = Table(("cup", "tea"), ((0,), (0, 1)))
LINE = Table(NAMES, tuple((at, at + 1) for at in range(11)) + ((11,),))


def is_kept_for(table, errors, bottom, lines, known):
    """Whether a clerk can keep so many lines of parts with a bottom, from errors of classes in such units."""
    totals = plain_totals(table)
    if any(abs(sum(errors[number] for number in total)) >= bottom for total in totals):
        return False
    if not lines:
        return True
    key = (errors, lines)
    if key not in known:
        known[key] = True
        for number in range(len(errors)):
            for part in range(1, bottom):
                behind = [errors[:number] + (errors[number] + change,) + errors[number + 1:]
                          for change in (-part, bottom - part)]
                if not any(is_kept_for(table, one, bottom, lines - 1, known) for one in behind):
                    known[key] = False
                    return False
    return known[key]


def class_sums(table, errors):
    return tuple(sum((exact(errors[kind]) for kind in kinds), Fraction(0)) for kinds in plain_classes(table))


def is_greater(one, other):
    """Whether one number of lines is greater than another one, None being the greatest."""
    return other is not None and (one is None or one > other)


def at_most_one_less(behind, before):
    """Whether a number of lines fell by at most 1, and None stayed."""
    return behind is None if before is None else behind is None or behind >= before - 1


def behind(errors, kind, amount, whole):
    return errors[:kind] + (told(exact(errors[kind]) + whole - exact(amount)),) + errors[kind + 1:]


class Games(unittest.TestCase):

    def test_whole_games(self):
        # Attacks need no finer parts than twice those of the errors.
        rng = random.Random(1)
        seen = {}
        for table in SMALL:
            for bottom, size in ((1, 0), (1, 1), (2, 2), (3, 3), (3, 2)):
                errors = tuple(told(Fraction(rng.randint(-size, size), bottom)) for _ in table.kinds)
                units = tuple(int(2 * bottom * error) for error in class_sums(table, errors))
                fewest, known = least_lines(table, errors), {}
                for lines in range(5):
                    kept = is_kept_for(table, units, 2 * bottom, lines, known)
                    self.assertIs(kept, fewest is None or lines < fewest)
                seen[fewest] = seen.get(fewest, 0) + 1
        self.assertLessEqual({None, 0, 1, 2, 3, 4}, set(seen))

    def test_from_no_errors(self):
        seen = set()
        for table in TABLES + list(every_table(3, 3)):
            fewest = least_height(table)
            self.assertEqual(fewest, least_lines(table, ((0, 1),) * len(table.kinds)))
            self.assertIs(fewest is None, is_good_table(table))
            self.assertIn(fewest, (None, 3, 4, 5))
            if raised(fewest_lines, table) is None:
                self.assertEqual(fewest, fewest_lines(table))
            ring = shortest_ring(table)
            if ring is not None and not three_totals(table):
                self.assertEqual(fewest, least_power(len(ring.at)) + 1)
            seen.add(fewest)
        self.assertLessEqual({None, 3, 4}, seen)
        self.assertEqual([least_height(ring_table(many)) for many in (3, 5, 7, 9, 11)], [3, 4, 4, 5, 5])
        self.assertEqual([least_height(ring_table(many)) for many in (4, 6, 12)], [None] * 3)

    def test_at_most_five_lines(self):
        rng = random.Random(2)
        greatest = {True: 0, False: 0}
        for table in TABLES + [LINE, ring_table(9), ring_table(11)]:
            good = is_good(table)
            for size in (0, 1, 1, 2):
                errors = tuple(random_fraction(rng, size, (3, 5, 7, 9)) for _ in table.kinds)
                fewest = least_lines(table, errors)
                self.assertTrue(fewest is None and good or fewest <= (4 if good else 5))
                greatest[good] = max(greatest[good], fewest or 0)
        # Along a chain of twelve classes and the ground just the two ends are far apart.
        far = tuple(told(Fraction((12 - at) * (-1) ** at, 12)) for at in range(12))
        self.assertEqual(least_lines(LINE, far), 4)
        self.assertEqual(greatest[False], 5)

    def test_the_first_level_with_something_off(self):
        rng = random.Random(3)
        for table in TABLES:
            levels = levels_of(table)
            for size in (1, 2, 3):
                errors = tuple(random_fraction(rng, size, (2, 3, 5)) for _ in table.kinds)
                own = class_sums(table, errors)
                off = [at for at, level in enumerate(levels)
                       if any(abs(sum(entry * one for entry, one in zip(row, own))) >= 1 for row in level)]
                if off:
                    self.assertEqual(least_lines(table, errors), off[0])
                elif is_good(table):
                    self.assertIsNone(least_lines(table, errors))
                else:
                    far = any(abs(sum((a - b) * c for a, b, c in zip(one, other, own))) >= 1
                              for one in levels[-1] for other in levels[-1]
                              if any(a == b != 0 for a, b in zip(one, other)))
                    self.assertEqual(least_lines(table, errors), len(levels) if far else len(levels) + 1)

    def test_examples(self):
        self.assertEqual((least_height(RING), least_height(TABLE), least_lines(TABLE, ((-2, 3), (1, 1)))), (3, None, 1))
        self.assertEqual((least_lines(TABLE, ((-2, 3), (1, 2))), stubborn(TABLE, ((-1, 2), (0, 1)), 1, (3, 4))), (None, 1))
        self.assertEqual(least_lines(errors=((1, 1), (0, 1)), table=TABLE), 0)
        self.assertEqual(least_height(table=RING), 3)
        bare = Table(("cup",), ())
        self.assertEqual((least_height(bare), quickest_attack(bare, ((9, 1),)), stubborn(bare, ((0, 1),), 0, (1, 2))),
                         (None, None, 0))


class Attacks(unittest.TestCase):

    def walk(self, table, errors, tree):
        """Walk all ways of a tree, and see that the total told is off."""
        if tree[0] == "off":
            total = sum((exact(errors[kind]) for kind in table.totals[tree[1]]), Fraction(0))
            self.assertGreaterEqual(abs(total), 1)
            return
        self.assertTrue(0 < exact(tree[2]) < 1)
        self.walk(table, behind(errors, tree[1], tree[2], 1), tree[3])
        self.walk(table, behind(errors, tree[1], tree[2], 0), tree[4])

    def test_quickest(self):
        rng = random.Random(4)
        heights = set()
        for table in TABLES + [RING, ring_table(9), ring_table(11), LINE]:
            for size in (0, 1, 1, 2):
                errors = tuple(random_fraction(rng, size, (2, 3, 5, 7)) for _ in table.kinds)
                attack, fewest = quickest_attack(table, errors), least_lines(table, errors)
                heights.add(fewest)
                if fewest is None:
                    self.assertIsNone(attack)
                    continue
                self.assertIs(is_attack_from(table, errors, attack), True)
                self.assertEqual(height_of(attack), fewest)
                self.assertLessEqual(count_lines(attack), 31)
                self.walk(table, errors, attack)
        self.assertLessEqual({None, 0, 1, 2, 3, 4, 5}, heights)
        self.assertEqual(height_of(quickest_attack(errors=((0, 1),) * 3, table=RING)), 3)

    def test_long_errors(self):
        rng = random.Random(5)
        for table in (RING, ring_table(11), LINE):
            errors = tuple(told(Fraction(rng.randint(-10 ** 300, 10 ** 300), 5 * 10 ** 300 + kind))
                           for kind in range(len(table.kinds)))
            attack, fewest = quickest_attack(table, errors), least_lines(table, errors)
            self.assertEqual(attack is None, fewest is None)
            if attack is not None:
                self.assertIs(is_attack_from(table, errors, attack), True)
                self.assertEqual(height_of(attack), fewest)


class Stubborn(unittest.TestCase):

    def test_wholes(self):
        rng = random.Random(6)
        seen = {}
        for table in TABLES:
            for size in (0, 1, 2, 3):
                errors = tuple(random_fraction(rng, size, (2, 3, 5)) for _ in table.kinds)
                kind, amount = rng.randrange(len(table.kinds)), random_fraction(rng, 5)
                lines = [least_lines(table, behind(errors, kind, amount, whole)) for whole in choices(amount)]
                up = len(lines) == 2 and is_greater(lines[1], lines[0])
                self.assertEqual(stubborn(table, errors, kind, amount), choices(amount)[int(up)])
                before = least_lines(table, errors)
                self.assertTrue(at_most_one_less(lines[int(up)], before))
                seen[len(lines), up] = seen.get((len(lines), up), 0) + 1
        self.assertEqual(len(seen), 3)
        self.assertGreater(min(seen.values()), 30)

    def test_nobody_holds_out_longer(self):
        rng = random.Random(7)
        for table in TABLES:
            lines = random_lines(rng, table, 5)
            day = stubborn_day(table, lines)
            self.assertEqual(tuple(line[:2] for line in day), lines)
            errors, before = ((0, 1),) * len(table.kinds), least_height(table)
            for kind, amount, whole in day:
                self.assertEqual(whole, stubborn(table, errors, kind, amount))
                errors = behind(errors, kind, amount, whole)
                now = least_lines(table, errors)
                self.assertTrue(at_most_one_less(now, before))
                before = now
            if is_good(table):
                self.assertIsNone(before)

    def test_against_the_quickest_attack(self):
        # Whoever rounds the first line of it, the rest needs one line less at most; stubborn wholes leave just that.
        rng = random.Random(9)
        walked = 0
        for table in TABLES + [RING, ring_table(9), LINE]:
            for size in (0, 1, 2):
                errors = tuple(random_fraction(rng, size, (2, 3, 5)) for _ in table.kinds)
                tree = quickest_attack(table, errors)
                while tree is not None and tree[0] == "line":
                    kind, amount, height = tree[1], tree[2], least_lines(table, errors)
                    for whole in (0, 1):
                        self.assertLess(least_lines(table, behind(errors, kind, amount, whole)), height)
                    whole = stubborn(table, errors, kind, amount)
                    errors = behind(errors, kind, amount, whole)
                    self.assertEqual(least_lines(table, errors), height - 1)
                    tree = tree[4 - whole]
                    walked += 1
        self.assertGreater(walked, 100)

    def test_four_hundred_lines(self):
        rng = random.Random(8)
        for table in (LINE, ring_table(11)):
            kinds = len(table.kinds)
            lines = tuple((rng.randrange(kinds), told(Fraction(rng.randint(-10 ** 6, 10 ** 6), rng.randint(1, 10 ** 6))))
                          for _ in range(400))
            day = stubborn_day(lines=lines, table=table)
            self.assertEqual(len(day), 400)
            if table is LINE:
                errors = tuple(told(sum((whole - exact(amount) for own, amount, whole in day if own == kind), Fraction(0)))
                               for kind in range(12))
                self.assertIsNone(least_lines(table, errors))
        self.assertEqual(stubborn(amount=(3, 4), kind=1, errors=((-1, 2), (0, 1)), table=TABLE), 1)


if __name__ == "__main__":
    unittest.main()
