"""Promise [63]: how long counted errors can be kept."""

import random
import unittest
from fractions import Fraction
from itertools import product

from centsatonce.begun import begin_total, no_starts
from centsatonce.court import court, is_good
from centsatonce.days import choices
from centsatonce.fewest import least_lines
from centsatonce.held import are_held
from centsatonce.tables import Table
from centsatonce.walks import can_go_on, lines_begun, wholes_begun
from centsatonce.window import fixed_pieces
from tests.helpers import NAMES, exact, plain_classes, plain_totals, raised, random_fraction, random_tables, told
from tests.test_begunheights import BAD, GOOD, TWICE, spoilt_starts, starts_of
from tests.test_spoils import ring_table

SMALL = [table for table in random_tables(63, 500, most_kinds=3, most_totals=6, sizes=(1, 1, 2, 2, 2, 3), least_kinds=1)
         if is_good(table) and plain_classes(table) and all(fixed_pieces(table, court(table)))]
TABLE = Table(("cup", "jam", "pie", "tea"), ((0, 1), (2, 3), (0, 2)))
KNOT = ("Refused", {"word": "knot"})


def whole_game(table, starts, bottom):
    """A dict from the errors of classes, in parts of a whole, to the fewest lines that beat every clerk, None if none do.

    All lines of such parts are tried, from all errors in which no counted error is off. Each class is in a fixed piece.
    """
    totals = plain_totals(table)
    units = [int(exact(start) * bottom) for start in starts]
    many = len(plain_classes(table))
    reach = range(-4 * bottom, 4 * bottom + 1)
    left = {errors for errors in product(reach, repeat=many)
            if all(abs(sum(errors[number] for number in total) - unit) < bottom for total, unit in zip(totals, units))}
    fewest, lines = {}, 0

    def is_beaten(errors):
        for number in range(many):
            for part in range(1, bottom):
                behind = [errors[:number] + (errors[number] + change,) + errors[number + 1:]
                          for change in (-part, bottom - part)]
                if behind[0] not in left and behind[1] not in left:
                    return True
        return False

    while True:
        lines += 1
        beaten = {errors for errors in left if is_beaten(errors)}
        fewest.update({errors: lines for errors in beaten})
        left = left - beaten
        if not beaten:
            fewest.update({errors: None for errors in left})
            return fewest


def errors_at(table, units, bottom):
    errors = [(0, 1)] * len(table.kinds)
    for kinds, unit in zip(plain_classes(table), units):
        errors[kinds[-1]] = told(Fraction(unit, bottom))
    return tuple(errors)


def behind(errors, kind, amount, whole):
    return errors[:kind] + (told(exact(errors[kind]) + whole - exact(amount)),) + errors[kind + 1:]


class Games(unittest.TestCase):

    def check(self, rng, table, starts, bottom, most):
        game = whole_game(table, starts, bottom)
        for units in rng.sample(sorted(game), min(most, len(game))):
            errors = errors_at(table, units, bottom)
            self.assertEqual(lines_begun(table, starts, errors), game[units], (table.totals, starts, errors))
            self.assertIs(can_go_on(table, starts, errors), game[units] is None)
        return {lines for lines in game.values()}

    def test_whole_games(self):
        rng = random.Random(1)
        seen = set()
        for table in SMALL:
            for bottom in (2, 3, 4) if len(plain_classes(table)) < 3 else (2, 3):
                starts = tuple(told(Fraction(rng.randint(-bottom, bottom), bottom)) if total else (0, 1)
                               for total in table.totals)
                seen |= self.check(rng, table, starts, bottom, 12)
        self.assertLessEqual({None, 1, 2, 3, 4, 5}, seen)

    def test_two_classes_for_long(self):
        rng = random.Random(2)
        seen = set()
        for totals in (((0, 1), (0, 1), (0,)), ((0, 1), (0, 1), (0, 1), (0,), (1,)), ((0, 1), (0, 1), (1,), (1,))):
            table = Table(("a", "b"), totals)
            for bottom in (5, 8, 11):
                for _ in range(3):
                    starts = tuple(told(Fraction(rng.choice((-2, -1, 0, 1, 2)), bottom)) for _ in totals)
                    seen |= self.check(rng, table, starts, bottom, 40)
        self.assertLessEqual({None} | set(range(1, 10)), seen)

    def test_three_classes_of_which_two_are_tied_twice(self):
        rng = random.Random(3)
        table = Table(("a", "b", "c"), ((0, 1), (0, 1), (1, 2), (2,)))
        for starts in (((0, 1), (1, 4), (0, 1), (0, 1)), ((1, 4), (-1, 4), (1, 2), (-1, 4)), ((0, 1), (0, 1), (1, 4), (3, 4))):
            self.check(rng, table, starts, 4, 60)

    def test_the_piece_that_is_lost_first(self):
        table = Table(("a", "b", "c", "d"), ((0, 1), (0, 1), (0,), (2, 3), (2, 3), (2,)))
        seen = set()
        for one in (2, 5, 9, None):
            for other in (2, 5, 9, None):
                starts = ((0, 1), (1, one) if one else (0, 1), (0, 1), (0, 1), (1, other) if other else (0, 1), (0, 1))
                alone = [lines_begun(TWICE, own, ((0, 1),) * 2) for own in (starts[:3], starts[3:])]
                known = [lines for lines in alone if lines is not None]
                self.assertEqual(lines_begun(table, starts, ((0, 1),) * 4), min(known, default=None))
                seen.add(tuple(alone))
        self.assertEqual(len(seen), 16)

    def test_off_now(self):
        rng = random.Random(4)
        for table in GOOD:
            starts = starts_of(rng, table, tuple(random_fraction(rng, 2) for _ in plain_classes(table)))
            errors = tuple(random_fraction(rng, 3) for _ in table.kinds)
            counted = [sum((exact(errors[kind]) for kind in total), Fraction(0)) - exact(start)
                       for total, start in zip(table.totals, starts)]
            off = any(abs(error) >= 1 for error in counted)
            self.assertIs(lines_begun(table, starts, errors) == 0, off)
            self.assertFalse(off and can_go_on(table, starts, errors))


class NoStarts(unittest.TestCase):

    def test_least_lines(self):
        rng = random.Random(5)
        seen = set()
        for table in GOOD + [ring_table(12), Table(NAMES, tuple((at, at + 1) for at in range(11)) + ((11,),))]:
            for size in (1, 1, 2):
                errors = tuple(random_fraction(rng, size, (1, 2, 3, 5)) for _ in table.kinds)
                lines = lines_begun(table, no_starts(table), errors)
                self.assertEqual(lines, least_lines(table, errors))
                self.assertIs(can_go_on(table, no_starts(table), errors), are_held(table, errors))
                self.assertTrue(lines is None or lines <= 4)
                seen.add(lines)
        self.assertLessEqual({None, 0, 1, 2}, seen)

    def test_from_held_errors_with_heights(self):
        # With starts that belong to heights, all is as if the heights were taken off the errors.
        rng = random.Random(6)
        for table in GOOD:
            classes = plain_classes(table)
            colours = court(table).colours
            if any(len(total) == 1 for total in plain_totals(table)):
                continue
            heights = tuple(random_fraction(rng, 3) for _ in classes)
            starts = starts_of(rng, table, heights)
            errors = [random_fraction(rng, 2, (1, 2, 3)) for _ in table.kinds]
            lowered = list(errors)
            for kinds, height, colour in zip(classes, heights, colours):
                lowered[kinds[0]] = told(exact(lowered[kinds[0]]) - colour * exact(height))
            self.assertEqual(lines_begun(table, starts, tuple(errors)), least_lines(table, tuple(lowered)))


class Long(unittest.TestCase):

    def test_about_one_over_the_difference(self):
        zeros = ((0, 1), (0, 1))
        for bottom in (2, 3, 7, 50, 1000, 10 ** 6, 10 ** 40, 10 ** 3990):
            lines = lines_begun(TWICE, ((0, 1), (1, bottom), (0, 1)), zeros)
            self.assertLess(abs(lines - bottom), 4)
            self.assertIs(can_go_on(TWICE, ((0, 1), (1, bottom), (0, 1)), zeros), False)
        self.assertIsNone(lines_begun(TWICE, ((1, 3), (1, 3), (0, 1)), zeros))

    def test_each_line_takes_at_most_one(self):
        # Some whole leaves but one line less, and no line leaves less than that to whoever rounds well.
        rng = random.Random(7)
        for bottom in (5, 9, 30):
            starts = ((0, 1), (1, bottom), (1, 3))
            errors = ((0, 1), (0, 1))
            lines = lines_begun(TWICE, starts, errors)
            while lines:
                kind, amount = rng.randrange(2), told(Fraction(rng.randint(1, 4 * bottom), 4 * bottom))
                after = [lines_begun(TWICE, starts, behind(errors, kind, amount, whole)) for whole in choices(amount)]
                self.assertGreaterEqual(max(after), lines - 1)
                errors = behind(errors, kind, amount, choices(amount)[after.index(max(after))])
                self.assertLessEqual(max(after), lines)
                lines = max(after)
                if rng.random() < 0.05:
                    break

    def test_few_where_ways_lead_on(self):
        table = Table(("a", "b", "c"), ((0, 1), (0, 1), (1, 2)))
        zeros = ((0, 1),) * 3
        for bottom, most in ((10, 8), (1000, 14), (10 ** 6, 24), (10 ** 40, 140), (10 ** 300, 1010)):
            lines = lines_begun(table, ((0, 1), (1, bottom), (0, 1)), zeros)
            self.assertLessEqual(lines, most)
            self.assertGreater(2 ** lines, bottom // 4)

    def test_ring_of_twelve(self):
        ring = ring_table(12)
        zeros = ((0, 1),) * 12
        self.assertIsNone(lines_begun(ring, ((1, 10 ** 6),) * 12, zeros))
        self.assertIs(can_go_on(ring, ((1, 10 ** 6),) * 12, zeros), True)
        starts = ((1, 10 ** 6),) + ((0, 1),) * 11
        self.assertLess(lines_begun(ring, starts, zeros), 30)
        self.assertIs(can_go_on(ring, starts, zeros), False)


class Wholes(unittest.TestCase):

    def test_never_empty_for_who_can_go_on(self):
        rng = random.Random(8)
        seen = {}
        for table in GOOD:
            drawn = tuple(random_fraction(rng, 2, (2, 3)) for _ in plain_classes(table))
            for starts in (starts_of(rng, table, drawn), spoilt_starts(rng, table, starts_of(rng, table, drawn))):
                errors = tuple(random_fraction(rng, 1, (2, 3)) for _ in table.kinds)
                kind, amount = rng.randrange(len(table.kinds)), random_fraction(rng, 4)
                right = tuple(whole for whole in choices(amount)
                              if can_go_on(table, starts, behind(errors, kind, amount, whole)))
                found = wholes_begun(table, starts, errors, kind, amount)
                self.assertEqual(found, right)
                can = can_go_on(table, starts, errors)
                self.assertTrue(found or not can)
                seen[can, len(found)] = seen.get((can, len(found)), 0) + 1
        self.assertLessEqual({(True, 1), (True, 2), (False, 0)}, set(seen))

    def test_goes_on_and_on(self):
        rng = random.Random(9)
        table = Table(("a", "b", "c"), ((0, 1), (1, 2), (2,), (2,)))
        starts = starts_of(rng, table, ((1, 3), (-1, 2), (1, 5)))[:2] + ((1, 4), (1, 2))
        errors = ((1, 3), (1, 2), (2, 5))
        self.assertIs(can_go_on(table, starts, errors), True)
        for _ in range(200):
            kind, amount = rng.randrange(3), random_fraction(rng, 30)
            whole = rng.choice(wholes_begun(table, starts, errors, kind, amount))
            errors = behind(errors, kind, amount, whole)
            for total, start in zip(table.totals, starts):
                self.assertLess(abs(sum(exact(errors[own]) for own in total) - exact(start)), 1)


class Edges(unittest.TestCase):

    def test_examples(self):
        errors = ((1, 2), (0, 1), (0, 1), (0, 1))
        begun, starts = begin_total(TABLE, no_starts(TABLE), errors, (0, 2))
        self.assertEqual((can_go_on(begun, starts, errors), lines_begun(begun, starts, errors)), (False, 2))
        self.assertIs(can_go_on(errors=errors, starts=no_starts(TABLE), table=TABLE), True)
        self.assertIsNone(lines_begun(errors=errors, starts=no_starts(TABLE), table=TABLE))
        self.assertEqual(wholes_begun(amount=(1, 2), kind=0, errors=errors, starts=no_starts(TABLE), table=TABLE), (0,))
        one = Table(("cup",), ((0,), (0,)))
        for starts, error, lines in ((((0, 1), (0, 1)), (999, 1000), None), (((0, 1), (0, 1)), (1, 1), 0),
                                     (((0, 1), (999, 1000)), (1, 2), None), (((0, 1), (1, 1)), (1, 2), 1),
                                     (((0, 1), (-1, 1)), (-1, 2), 1), (((1, 2), (1, 2)), (-1, 2), 0)):
            self.assertEqual(lines_begun(one, starts, (error,)), lines)
            self.assertIs(can_go_on(one, starts, (error,)), lines is None)
        bare = Table(("cup",), ((),))
        self.assertIsNone(lines_begun(bare, ((0, 1),), ((77, 2),)))
        self.assertEqual(wholes_begun(bare, ((0, 1),), ((77, 2),), 0, (7, 2)), (3, 4))

    def test_without_blocks(self):
        for table in BAD + [ring_table(3)]:
            zeros = ((0, 1),) * len(table.kinds)
            self.assertEqual(raised(lines_begun, table, no_starts(table), zeros), KNOT)
            self.assertIs(can_go_on(table, no_starts(table), zeros), False)
            self.assertEqual(wholes_begun(table, no_starts(table), zeros, 0, (1, 2)), ())

    def test_very_long_errors(self):
        rng = random.Random(10)
        bottom = 10 ** 3999 + 7
        line = Table(NAMES, tuple((at, at + 1) for at in range(11)) + ((11,),))
        signed = [Fraction(rng.randint(0, bottom - 1), bottom) for _ in range(12)]
        errors = tuple(told(point * (-1) ** (at + 1)) for at, point in enumerate(signed))
        self.assertIsNone(lines_begun(line, no_starts(line), errors))
        self.assertIs(can_go_on(line, no_starts(line), errors), True)


if __name__ == "__main__":
    unittest.main()
