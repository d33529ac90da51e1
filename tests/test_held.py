"""Promise [50], and of [51] what it says of lasting_wholes and lasting_day."""

import random
import unittest
from fractions import Fraction
from itertools import combinations, product

from centsatonce.court import court, is_good, repainted
from centsatonce.days import choices
from centsatonce.fewest import least_lines
from centsatonce.held import apart, are_held, are_held_for, lasting_day, lasting_wholes, lost_pairs
from centsatonce.reaches import distance, ground_of, lines_that_tell
from centsatonce.tables import Table
from tests.helpers import NAMES, exact, odd_values, plain_classes, raised, random_fraction, random_lines, random_tables, told
from tests.test_fewest import LINE, class_sums, is_kept_for
from tests.test_spoils import ring_table
from tests.test_window import plain_signed

GOOD = [table for table in random_tables(50, 300, most_kinds=6, most_totals=6, sizes=(0, 1, 2, 2, 2)) if is_good(table)]
SMALL = [table for table in GOOD if 1 <= len(plain_classes(table)) <= 4]
RING = Table(("cup", "jam", "tea"), ((0, 1), (1, 2), (0, 2)))
TABLE = Table(("bun", "cup", "jam", "tea"), ((0, 1), (1, 2), (2, 3), (3,)))
ERRORS = ((1, 2), (0, 1), (-1, 3), (2, 3))
KNOT = ("Refused", {"word": "knot"})
POSTS = ("Refused", {"word": "posts"})
LOST = ("Refused", {"word": "lost"})
NO_LINES = ("InvalidNumber", {"word": "lines"})


def behind(errors, kind, amount, whole):
    return errors[:kind] + (told(exact(errors[kind]) + whole - exact(amount)),) + errors[kind + 1:]


def points_of(table, errors):
    """Where all posts are, as Fractions."""
    return plain_signed(table, court(table), errors) + [Fraction(0)]


def lost_by(table, errors):
    """The lost pairs, by the words of the promise."""
    points = points_of(table, errors)
    found = []
    for one, other in combinations(range(len(points)), 2):
        if abs(points[one] - points[other]) >= 1 and distance(table, one, other) is not None:
            found.append((distance(table, one, other), one, other))
    return tuple(sorted(found))


def held_for(table, errors, lines):
    """Whether errors are held for so many lines, by the lost pairs."""
    return all(far > 2 ** min(lines, 9) for far, _, _ in lost_by(table, errors))


class Apart(unittest.TestCase):

    def test_random_errors(self):
        rng = random.Random(1)
        seen = set()
        for table in GOOD:
            errors = tuple(random_fraction(rng, rng.choice((1, 2, 5)), (2, 3, 5)) for _ in table.kinds)
            points = points_of(table, errors)
            for one, other in product(range(len(points)), repeat=2):
                way = distance(table, one, other) is not None
                if way:
                    self.assertEqual(apart(table, errors, one, other), told(abs(points[one] - points[other])))
                else:
                    self.assertEqual(raised(apart, table, errors, one, other), POSTS)
                seen.add(way)
            self.assertEqual(lost_pairs(table, errors), lost_by(table, errors))
            self.assertIs(are_held(table, errors), not lost_by(table, errors))
        self.assertEqual(seen, {True, False})

    def test_any_colours(self):
        rng = random.Random(7)
        for table in GOOD:
            blocks = court(table)
            for at in range(len(blocks.pieces)):
                blocks = repainted(blocks, at) if rng.random() < 0.5 else blocks
            errors = tuple(random_fraction(rng, 3) for _ in table.kinds)
            points = plain_signed(table, blocks, errors) + [Fraction(0)]
            for one, other in combinations(range(len(points)), 2):
                if distance(table, one, other) is not None:
                    self.assertEqual(apart(table, errors, one, other), told(abs(points[one] - points[other])))

    def test_examples(self):
        self.assertEqual((lost_pairs(TABLE, ERRORS), are_held_for(TABLE, ERRORS, 1), are_held_for(TABLE, ERRORS, 2)),
                         (((3, 0, 3),), True, False))
        self.assertEqual(apart(other=3, one=0, errors=ERRORS, table=TABLE), (7, 6))
        self.assertEqual(apart(TABLE, ERRORS, 4, 4), (0, 1))
        self.assertEqual(apart(TABLE, ERRORS, 4, 0), (1, 2))
        self.assertEqual(lost_pairs(errors=((0, 1),) * 4, table=TABLE), ())
        self.assertIs(are_held(errors=((0, 1),) * 4, table=TABLE), True)
        self.assertIs(are_held_for(lines=0, errors=ERRORS, table=TABLE), True)
        two = Table(("a", "b"), ((0,), (1,)))
        self.assertEqual(apart(two, ((5, 1), (1, 2)), 0, 2), (5, 1))
        self.assertEqual(raised(apart, two, ((0, 1), (0, 1)), 0, 1), POSTS)

    def test_edges(self):
        one = Table(("cup",), ((0,),))
        for error, held in (((1, 1), False), ((-1, 1), False), ((999, 1000), True), ((-999, 1000), True)):
            self.assertIs(are_held(one, (error,)), held)
            self.assertIs(are_held_for(one, (error,), 0), held)


class HeldFor(unittest.TestCase):

    def test_whole_games(self):
        rng = random.Random(2)
        seen = {True: 0, False: 0}
        for table in SMALL:
            for bottom in (1, 2, 3):
                errors = tuple(told(Fraction(rng.randint(-bottom, bottom), bottom)) for _ in table.kinds)
                units, known = tuple(int(bottom * error) for error in class_sums(table, errors)), {}
                for lines in range(4):
                    held = are_held_for(table, errors, lines)
                    self.assertIs(held, is_kept_for(table, units, bottom, lines, known))
                    self.assertIs(held, held_for(table, errors, lines))
                    seen[held] += 1
        self.assertGreater(min(seen.values()), 200)

    def test_least_lines(self):
        rng = random.Random(3)
        for table in GOOD + [LINE] * 20:
            errors = tuple(random_fraction(rng, rng.choice((1, 1, 2)), (3, 4, 5, 7)) for _ in table.kinds)
            fewest, tell = least_lines(table, errors), lines_that_tell(table)
            self.assertLessEqual(tell, 4)
            for lines in range(7):
                self.assertIs(are_held_for(table, errors, lines), fewest is None or lines < fewest)
            self.assertIs(are_held_for(table, errors, tell), are_held(table, errors))
            self.assertIs(are_held_for(table, errors, 10 ** 30), are_held(table, errors))

    def test_one_line_less_and_no_longer(self):
        for many in range(2, 13):
            table = Table(NAMES[:many], tuple((at, at + 1) for at in range(many - 1)) + ((many - 1,),))
            errors = tuple(told(Fraction((many - at) * (-1) ** at, many)) for at in range(many))
            tell = lines_that_tell(table)
            self.assertEqual(lost_pairs(table, errors), ((many, 0, many),))
            self.assertIs(are_held_for(table, errors, tell - 1), True)
            self.assertIs(are_held_for(table, errors, tell), False)
            self.assertEqual(least_lines(table, errors), tell)
        self.assertEqual(lines_that_tell(LINE), 4)


class Wholes(unittest.TestCase):

    def test_random_lines(self):
        rng = random.Random(4)
        seen = set()
        for table in GOOD:
            for size in (1, 1, 2):
                errors = tuple(random_fraction(rng, size, (2, 3, 5)) for _ in table.kinds)
                kind, amount = rng.randrange(len(table.kinds)), random_fraction(rng, 4)
                for lines in (0, 1, 2, 3, 4, 9, None):
                    right = tuple(whole for whole in choices(amount)
                                  if held_for(table, behind(errors, kind, amount, whole), 9 if lines is None else lines))
                    found = lasting_wholes(table, errors, kind, amount, lines)
                    self.assertEqual(found, right)
                    longer = 9 if lines is None else lines + 1
                    self.assertTrue(found or not held_for(table, errors, longer))
                    seen.add((len(found), lines))
        self.assertEqual(len(seen), 21)

    def test_examples(self):
        self.assertEqual((lasting_wholes(TABLE, ERRORS, 1, (1, 2), 1), lasting_wholes(TABLE, ERRORS, 1, (1, 2), 0)), ((), (0,)))
        self.assertEqual(lasting_wholes(lines=None, amount=(1, 2), kind=1, errors=((0, 1),) * 4, table=TABLE), (0, 1))
        self.assertEqual(lasting_wholes(TABLE, ((0, 1),) * 4, 1, (5, 1)), (5,))
        huge = (10 ** 50 + 1, 10 ** 50)
        self.assertEqual(lasting_wholes(TABLE, ((0, 1),) * 4, 3, huge), (1, 2))
        free = Table(("cup", "tea"), ((0,),))
        self.assertEqual(lasting_wholes(free, ((0, 1), (99, 1)), 1, (1, 2)), (0, 1))
        self.assertEqual(lasting_wholes(free, ((1, 1), (99, 1)), 1, (1, 2)), ())

    def test_days(self):
        rng = random.Random(5)
        seen = {True: 0, False: 0}
        for table in GOOD:
            for size in (0, 1, 1, 2, 3):
                errors = tuple(random_fraction(rng, size, (2, 3, 5)) for _ in table.kinds)
                lines = random_lines(rng, table, rng.randint(0, 6))
                held = held_for(table, errors, len(lines))
                seen[held] += 1
                if not held:
                    self.assertEqual(raised(lasting_day, table, errors, lines), LOST)
                    continue
                day = lasting_day(table, errors, lines)
                self.assertEqual(tuple(line[:2] for line in day), lines)
                for at, (kind, amount, whole) in enumerate(day):
                    self.assertIn(whole, choices(amount))
                    errors = behind(errors, kind, amount, whole)
                    self.assertTrue(held_for(table, errors, len(lines) - at - 1))
        self.assertGreater(min(seen.values()), 40)
        self.assertEqual(lasting_day(lines=(), errors=ERRORS, table=TABLE), ())

    def test_days_that_cannot_last(self):
        # The ends of a chain are far apart: one line less than tells is all that can be held.
        errors = tuple(told(Fraction((12 - at) * (-1) ** at, 12)) for at in range(12))
        for many in range(6):
            lines = tuple((kind, (1, 3)) for kind in range(many))
            self.assertEqual(raised(lasting_day, LINE, errors, lines), LOST if many > 3 else None)
            # Whole amounts change nothing, so nothing that is lost comes near again.
            lines = ((5, (2, 1)),) * many
            if many > 3:
                self.assertEqual(raised(lasting_day, LINE, errors, lines), LOST)
            else:
                self.assertEqual(lasting_day(LINE, errors, lines), ((5, (2, 1), 2),) * many)

    def test_four_hundred_lines(self):
        rng = random.Random(6)
        lines = tuple((rng.randrange(12), told(Fraction(rng.randint(-10 ** 6, 10 ** 6), rng.randint(1, 10 ** 6))))
                      for _ in range(400))
        errors = ((0, 1),) * 12
        for kind, amount, whole in lasting_day(LINE, errors, lines):
            errors = behind(errors, kind, amount, whole)
        self.assertIs(are_held(LINE, errors), True)


class Refusals(unittest.TestCase):

    def test_no_blocks(self):
        for table in (RING, ring_table(5), Table(("a", "b", "c"), ((0,), (0, 1), (0, 1, 2)))):
            zeros = ((0, 1),) * len(table.kinds)
            self.assertIs(are_held(table, zeros), False)
            self.assertEqual(raised(apart, table, zeros, 0, 1), KNOT)
            self.assertEqual(raised(lost_pairs, table, zeros), KNOT)
            self.assertEqual(raised(are_held_for, table, zeros, 0), KNOT)
            self.assertEqual(raised(lasting_wholes, table, zeros, 0, (1, 2)), KNOT)
            self.assertEqual(raised(lasting_wholes, table, zeros, 0, (1, 2), 3), KNOT)
            self.assertEqual(raised(lasting_day, table, zeros, ()), KNOT)
            self.assertEqual(raised(lasting_day, table, ((5, 1),) * len(table.kinds), ((0, (1, 2)),)), KNOT)

    def test_two_pieces_of_which_one_has_a_knot(self):
        table = Table(("a", "b", "c", "d", "e"), ((0, 1), (1, 2), (0, 2), (3, 4)))
        self.assertEqual(raised(apart, table, ((0, 1),) * 5, 0, 3), KNOT)
        self.assertEqual(raised(are_held_for, table, ((0, 1),) * 5, -1), NO_LINES)

    def test_numbers(self):
        zeros = ((0, 1),) * 4
        for value in odd_values() + [-1, -10 ** 30, (1,), "3", True, False, 2.0]:
            self.assertEqual(raised(are_held_for, TABLE, zeros, value), NO_LINES)
            self.assertEqual(raised(are_held_for, RING, zeros, value), NO_LINES)
            if value is not None:
                self.assertEqual(raised(lasting_wholes, TABLE, zeros, 0, (1, 2), value), NO_LINES)
                self.assertEqual(raised(lasting_wholes, RING, zeros, 0, (1, 2), value), NO_LINES)
        self.assertEqual(raised(are_held_for, TABLE, zeros, None), NO_LINES)
        self.assertIsNone(raised(are_held_for, TABLE, zeros, 10 ** 40))


if __name__ == "__main__":
    unittest.main()
