"""Promise [54], and of [55] what it says of near_day."""

import random
import unittest
from fractions import Fraction

from centsatonce.court import court, is_good
from centsatonce.days import choices, is_day
from centsatonce.tables import Table
from centsatonce.widewindow import is_wide_day, is_wide_inside, near_day, wide_allowed, wide_day, wide_window
from centsatonce.wideparts import parts_of_total
from centsatonce.wider import bound_of, widths_of
from centsatonce.window import is_inside
from tests.helpers import NAMES, OTHERS, errors_by_total, exact, kind_errors, odd_values, plain_classes, plain_totals
from tests.helpers import random_fraction, random_lines, random_tables, rounded, told, with_swapped

TABLES = random_tables(54, 150, most_kinds=6, most_totals=5)
NESTED = Table(("cup", "jam", "tea"), ((0,), (0, 1), (0, 1, 2)))


def random_colours(rng, table):
    return tuple(rng.choice((1, -1)) for _ in plain_classes(table))


def plain_pieces(table):
    """The pieces, by joining what has a total together."""
    pieces = [{number} for number in range(len(plain_classes(table)))]
    for total in plain_totals(table):
        own = [piece for piece in pieces if piece & set(total)]
        if own:
            pieces = [piece for piece in pieces if piece not in own] + [set().union(*own)]
    return sorted(tuple(sorted(piece)) for piece in pieces)


def plain_points(table, colours, errors):
    signed = [sum((exact(errors[kind]) for kind in kinds), Fraction(0)) * colour
              for kinds, colour in zip(plain_classes(table), colours)]
    return [[Fraction(0)] + [signed[number] for number in piece] for piece in plain_pieces(table)]


def is_plain_wide(table, colours, errors):
    return all(max(points) - min(points) < 1 for points in plain_points(table, colours, errors))


def behind(errors, kind, amount, whole):
    return errors[:kind] + (told(exact(errors[kind]) + whole - exact(amount)),) + errors[kind + 1:]


def weighed_error(table, weights, errors):
    return sum(weight * sum((exact(errors[kind]) for kind in kinds), Fraction(0))
               for weight, kinds in zip(weights, plain_classes(table)))


def wide_errors(rng, table, colours):
    """Some errors that are wide inside, by lines each rounded in some way that keeps them so."""
    errors = ((0, 1),) * len(table.kinds)
    for kind, amount in random_lines(rng, table, rng.randint(0, 8)):
        wholes = [whole for whole in choices(amount) if is_plain_wide(table, colours, behind(errors, kind, amount, whole))]
        errors = behind(errors, kind, amount, rng.choice(wholes))
    return errors


class Window(unittest.TestCase):

    def test_random_errors(self):
        rng = random.Random(1)
        seen = {True: 0, False: 0}
        for table in TABLES:
            colours = random_colours(rng, table)
            for size in (0, 1, 1, 2):
                errors = tuple(random_fraction(rng, size, (1, 2, 3, 5)) for _ in table.kinds)
                points = plain_points(table, colours, errors)
                self.assertEqual(wide_window(table, colours, errors), tuple((told(min(own)), told(max(own))) for own in points))
                inside = is_plain_wide(table, colours, errors)
                self.assertIs(is_wide_inside(table, colours, errors), inside)
                seen[inside] += 1
        self.assertGreater(min(seen.values()), 100)

    def test_both_wholes(self):
        rng = random.Random(2)
        many = set()
        for table in TABLES:
            colours = random_colours(rng, table)
            for _ in range(3):
                errors = wide_errors(rng, table, colours)
                self.assertIs(is_wide_inside(table, colours, errors), True)
                kind, amount = rng.randrange(len(table.kinds)), random_fraction(rng)
                right = tuple(whole for whole in choices(amount)
                              if is_plain_wide(table, colours, behind(errors, kind, amount, whole)))
                self.assertEqual(wide_allowed(table, colours, errors, kind, amount), right)
                self.assertTrue(right)
                many.add((len(right), amount[1] == 1))
        self.assertEqual(many, {(1, True), (1, False), (2, False)})

    def test_wider_than_the_window_of_blocks(self):
        rng = random.Random(3)
        for table in TABLES:
            if is_good(table):
                blocks = court(table)
                errors = tuple(random_fraction(rng, 1, (1, 2, 3)) for _ in table.kinds)
                if is_wide_inside(table, blocks.colours, errors):
                    self.assertIs(is_inside(table, blocks, errors), True)

    def test_edges(self):
        one = Table(("cup", "tea"), ((0,),))
        for error, inside in (((0, 1), True), ((999, 1000), True), ((1, 1), False), ((-1, 1), False), ((-999, 1000), True)):
            for colour in (1, -1):
                self.assertIs(is_wide_inside(one, (colour,), (error, (99, 1))), inside)
        self.assertEqual(wide_window(one, (-1,), ((1, 3), (0, 1))), (((-1, 3), (0, 1)),))
        self.assertEqual(wide_allowed(one, (1,), ((1, 2), (0, 1)), 1, (7, 2)), (3, 4))
        self.assertEqual(wide_allowed(one, (1,), ((1, 2), (0, 1)), 0, (7, 1)), (7,))
        self.assertEqual(wide_allowed(one, (1,), ((1, 2), (0, 1)), 0, (7, 2)), (3,))
        bare = Table(("cup",), ((),))
        self.assertEqual(wide_window(bare, (), ((5, 1),)), ())
        self.assertIs(is_wide_inside(bare, (), ((5, 1),)), True)


class Days(unittest.TestCase):

    def check_keeps(self, table, colours, day):
        """Each weighed error, and each total's error, stays below its bound behind each line."""
        weights = [tuple(sign * (number == own) for number in range(len(colours))) for own in range(len(colours))
                   for sign in (1, -1)]
        rng = random.Random(len(day))
        weights += [tuple(rng.randint(-100, 100) for _ in colours) for _ in range(3)]
        for many in range(1, len(day) + 1):
            errors = tuple(map(told, kind_errors(table, day[:many])))
            for error, width in zip(errors_by_total(table, kind_errors(table, day[:many])), widths_of(table, colours)):
                self.assertTrue(abs(error) < width or error == width == 0)
            for own in weights:
                bound = bound_of(table, colours, own)
                error = weighed_error(table, own, errors)
                self.assertTrue(abs(error) < bound or error == bound == 0)

    def test_least_wholes(self):
        rng = random.Random(4)
        for table in TABLES:
            colours = random_colours(rng, table)
            lines = random_lines(rng, table, rng.randint(0, 8))
            day = wide_day(table, colours, lines)
            self.assertEqual(tuple(line[:2] for line in day), lines)
            errors = ((0, 1),) * len(table.kinds)
            for kind, amount, whole in day:
                wholes = [one for one in choices(amount) if is_plain_wide(table, colours, behind(errors, kind, amount, one))]
                self.assertEqual(whole, wholes[0])
                errors = behind(errors, kind, amount, whole)
            self.assertIs(is_wide_day(table, colours, day), True)
            self.check_keeps(table, colours, day)
            for total in range(len(table.totals)):
                for part in parts_of_total(table, colours, total):
                    own = [exact(errors[kind]) for number in part for kind in plain_classes(table)[number]]
                    self.assertLess(abs(sum(own)), 1)

    def test_wide_or_not(self):
        rng = random.Random(5)
        seen = {True: 0, False: 0}
        for table in TABLES:
            colours = random_colours(rng, table)
            for _ in range(4):
                day = rounded(rng, random_lines(rng, table, rng.randint(0, 5), 4))
                right = all(is_plain_wide(table, colours, tuple(map(told, kind_errors(table, day[:many]))))
                            for many in range(1, len(day) + 1))
                self.assertIs(is_wide_day(table, colours, day), right)
                if right:
                    self.check_keeps(table, colours, day)
                seen[right] += 1
        self.assertGreater(min(seen.values()), 80)

    def test_kept_with_blocks(self):
        rng = random.Random(6)
        for table in TABLES:
            if is_good(table):
                day = wide_day(table, court(table).colours, random_lines(rng, table, 6))
                self.assertIs(is_day(table, day), True)

    def test_examples(self):
        halves = ((0, (1, 2)), (1, (1, 2)), (2, (1, 2)))
        self.assertEqual(wide_day(lines=halves, colours=(1, -1, 1), table=NESTED),
                         ((0, (1, 2), 0), (1, (1, 2), 1), (2, (1, 2), 0)))
        self.assertEqual(wide_day(NESTED, (1, 1, 1), halves), ((0, (1, 2), 0), (1, (1, 2), 0), (2, (1, 2), 0)))
        self.assertEqual(wide_day(NESTED, (1, 1, 1), ()), ())
        self.assertIs(is_wide_day(value=(), colours=(1, 1, 1), table=NESTED), True)

    def test_long_days(self):
        rng = random.Random(7)
        table = Table(NAMES, tuple((at, at + 1) for at in range(11)) + ((0, 3, 7, 11),))
        colours = tuple(rng.choice((1, -1)) for _ in range(12))
        lines = tuple((rng.randrange(12), told(Fraction(rng.randint(-99, 99), rng.choice((7, 8, 9))))) for _ in range(400))
        day = wide_day(table, colours, lines)
        self.assertIs(is_wide_day(table, colours, day), True)
        self.assertIs(is_wide_day(table, colours, day + ((0, (1, 1), 1),)), False)
        self.assertIs(is_wide_day(table, colours, day[:399] + ((0, (1, 1), 1),)), True)

    def test_other_values(self):
        day = wide_day(NESTED, (1, -1, 1), ((0, (9, 2)), (1, (7, 3)), (2, (5, 1))))
        for other in OTHERS:
            for value in with_swapped(day, other):
                right = isinstance(value, tuple) and value == ()
                self.assertIs(is_wide_day(NESTED, (1, -1, 1), value), right)
        for value in odd_values():
            self.assertIs(is_wide_day(NESTED, (1, -1, 1), value), False)
        for value in (((0, (1, 2), 2),), ((0, (1, 2), 0), (0, (1, 2), 0)), ((3, (1, 2), 0),), ((0, (10 ** 6 + 1, 2), 500000),),
                      ((0, (1, 10 ** 6 + 1), 0),), ((0, (2, 4), 0),)):
            self.assertIs(is_wide_day(NESTED, (1, -1, 1), value), False)


class Near(unittest.TestCase):

    def test_random_weights(self):
        rng = random.Random(8)
        for table in TABLES:
            colours = random_colours(rng, table)
            for bottom in (2, 3, 10, 999983, 10 ** 6):
                weights = tuple(rng.randint(-100, 100) for _ in colours)
                day = near_day(table, colours, weights, bottom)
                self.assertIs(is_day(table, day, False), True)
                self.assertIs(is_wide_day(table, colours, day), True)
                errors = tuple(map(told, kind_errors(table, day)))
                bound = bound_of(table, colours, weights)
                self.assertEqual(weighed_error(table, weights, errors), bound - Fraction(bound, bottom))

    def test_widths_are_come_near_to(self):
        for table in TABLES:
            colours = tuple(1 if number % 2 else -1 for number in range(len(plain_classes(table))))
            for total, classes in enumerate(plain_totals(table)):
                weights = tuple(int(number in classes) for number in range(len(colours)))
                day = near_day(table, colours, weights, 1000)
                error = errors_by_total(table, kind_errors(table, day))[total]
                self.assertEqual(error, Fraction(999, 1000) * widths_of(table, colours)[total])

    def test_examples(self):
        day = near_day(bottom=4, weights=(1, 1, 1), colours=(1, 1, 1), table=NESTED)
        self.assertEqual(errors_by_total(NESTED, kind_errors(NESTED, day))[2], Fraction(9, 4))
        self.assertEqual(weighed_error(NESTED, (0, 0, 0), tuple(map(told, kind_errors(
            NESTED, near_day(NESTED, (1, 1, 1), (0, 0, 0), 2))))), 0)
        self.assertEqual(near_day(Table(("cup",), ()), (), (), 5), ())


if __name__ == "__main__":
    unittest.main()
