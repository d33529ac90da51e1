"""Promises [33] and [34]: the window, and what is allowed."""

import random
import unittest
from fractions import Fraction
from itertools import product

from centsatonce.court import Blocks, count_blocks, court, repainted
from centsatonce.days import choices, is_day, totals_by
from centsatonce.numbers import are_small
from centsatonce.tables import Table
from centsatonce.window import allowed, fixed_pieces, gap_beside, is_inside, signed_errors, window_of
from tests.helpers import NAMES, exact, is_good_table, is_kept_day, plain_classes, plain_totals, random_fraction
from tests.helpers import random_lines, random_tables, told

GOOD = [table for table in random_tables(33, 400, most_kinds=6, most_totals=5, sizes=(0, 1, 2, 2, 2))
        if is_good_table(table)]
TABLE = Table(("cup", "tea"), ((0,), (1,), (0, 1)))
BLOCKS = Blocks((1, -1), ((0, 1),))
ERRORS = ((1, 4), (0, 1))


def some_blocks(rng, table):
    """Some right blocks, not always those in which the least classes are white."""
    blocks = court(table)
    for at in range(len(blocks.pieces)):
        if rng.random() < 0.5:
            blocks = repainted(blocks, at)
    return blocks


def plain_signed(table, blocks, errors):
    return [sum((exact(errors[kind]) for kind in kinds), Fraction(0)) * colour
            for kinds, colour in zip(plain_classes(table), blocks.colours)]


def plain_points(table, blocks, errors):
    """The points of all pieces, as Fractions."""
    signed = plain_signed(table, blocks, errors)
    found = []
    for piece in blocks.pieces:
        points = [signed[number] for number in piece]
        if any(len(total) == 1 and total[0] in piece for total in plain_totals(table)):
            points.append(Fraction(0))
        found.append(points)
    return found


def is_plain_inside(table, blocks, errors):
    return all(max(points) - min(points) < 1 for points in plain_points(table, blocks, errors))


def behind(errors, kind, amount, whole):
    return errors[:kind] + (told(exact(errors[kind]) + whole - exact(amount)),) + errors[kind + 1:]


def inside_errors(rng, table, blocks):
    """Some errors that are inside, by many lines each rounded so that they stay so."""
    errors = ((0, 1),) * len(table.kinds)
    for kind, amount in random_lines(rng, table, rng.randint(0, 8)):
        wholes = [whole for whole in choices(amount) if is_plain_inside(table, blocks, behind(errors, kind, amount, whole))]
        errors = behind(errors, kind, amount, rng.choice(wholes))
    return errors


class Points(unittest.TestCase):

    def test_random_errors(self):
        rng = random.Random(1)
        seen = set()
        for table in GOOD:
            blocks = some_blocks(rng, table)
            lone = [any(len(total) == 1 and total[0] in piece for total in plain_totals(table)) for piece in blocks.pieces]
            self.assertEqual(fixed_pieces(table, blocks), tuple(lone))
            for piece, fixed in zip(blocks.pieces, lone):
                self.assertTrue(fixed or len(piece) > 1)
            for size in (1, 1, 2, 5):
                errors = tuple(random_fraction(rng, size) for _ in table.kinds)
                self.assertEqual(signed_errors(table, blocks, errors),
                                 tuple(map(told, plain_signed(table, blocks, errors))))
                points = plain_points(table, blocks, errors)
                self.assertEqual(window_of(table, blocks, errors),
                                 tuple((told(min(some)), told(max(some))) for some in points))
                inside = is_plain_inside(table, blocks, errors)
                self.assertIs(is_inside(table, blocks, errors), inside)
                if inside:
                    self.assertTrue(are_small(totals_by(table, errors)))
                seen.add((inside, True in lone, False in lone))
        self.assertGreater(len(seen), 5)

    def test_edges(self):
        one = Table(("cup", "tea"), ((0, 1), (0,)))
        blocks = court(one)
        for errors, inside in ((((1, 1), (0, 1)), False), (((999, 1000), (0, 1)), True), (((-1, 1), (0, 1)), False),
                               (((1, 2), (1, 2)), False), (((1, 2), (499, 1000)), True), (((1, 2), (-1, 2)), True)):
            self.assertIs(is_inside(one, blocks, errors), inside)
        tie = Table(("cup", "jam", "tea"), ((0, 1), (1, 2)))
        self.assertIs(is_inside(tie, court(tie), ((7, 1), (-7, 1), (15, 2))), True)
        self.assertIs(is_inside(tie, court(tie), ((7, 1), (-7, 1), (8, 1))), False)
        self.assertEqual(fixed_pieces(tie, court(tie)), (False,))
        empty = Table(("cup",), ((),))
        self.assertEqual((signed_errors(empty, court(empty), ((9, 1),)), fixed_pieces(empty, court(empty)),
                          window_of(empty, court(empty), ((9, 1),)), is_inside(empty, court(empty), ((9, 1),))),
                         ((), (), (), True))

    def test_examples(self):
        self.assertEqual((window_of(TABLE, BLOCKS, ERRORS), gap_beside(TABLE, BLOCKS, ERRORS, 1)),
                         ((((0, 1), (1, 4)),), ((1, 4), (1, 1))))
        self.assertEqual((allowed(TABLE, BLOCKS, ERRORS, 1, (1, 8)), allowed(TABLE, BLOCKS, ERRORS, 1, (3, 4))), ((0,), (0, 1)))
        self.assertEqual(signed_errors(errors=((1, 4), (1, 3)), blocks=BLOCKS, table=TABLE), ((1, 4), (-1, 3)))
        self.assertEqual(fixed_pieces(blocks=BLOCKS, table=TABLE), (True,))
        self.assertEqual(window_of(errors=ERRORS, blocks=BLOCKS, table=TABLE), (((0, 1), (1, 4)),))
        self.assertIs(is_inside(errors=ERRORS, blocks=BLOCKS, table=TABLE), True)
        self.assertEqual(allowed(amount=(1, 8), kind=1, errors=ERRORS, blocks=BLOCKS, table=TABLE), (0,))
        self.assertEqual(gap_beside(kind=1, errors=ERRORS, blocks=BLOCKS, table=TABLE), ((1, 4), (1, 1)))


class Allowed(unittest.TestCase):

    def test_both_wholes(self):
        rng = random.Random(2)
        seen = {}
        for table in GOOD:
            blocks = some_blocks(rng, table)
            classes = plain_classes(table)
            for _ in range(6):
                errors = inside_errors(rng, table, blocks)
                for kind in range(len(table.kinds)):
                    amount = random_fraction(rng, 6)
                    right = tuple(whole for whole in choices(amount)
                                  if is_plain_inside(table, blocks, behind(errors, kind, amount, whole)))
                    self.assertEqual(allowed(table, blocks, errors, kind, amount), right)
                    self.assertGreater(len(right), 0)
                    gap = gap_beside(table, blocks, errors, kind)
                    number = next((at for at, kinds in enumerate(classes) if kind in kinds), None)
                    self.assertIs(gap is None, number is None)
                    if gap is not None:
                        self.check_gap(table, blocks, errors, number, gap, amount, right)
                    elif amount[1] > 1:
                        self.assertEqual(len(right), 2)
                    seen[len(right), gap is None] = seen.get((len(right), gap is None), 0) + 1
        self.assertGreater(min(seen.values()), 50)
        self.assertEqual(len(seen), 4)

    def check_gap(self, table, blocks, errors, number, gap, amount, right):
        signed = plain_signed(table, blocks, errors)
        at = next(at for at, piece in enumerate(blocks.pieces) if number in piece)
        others = plain_points(table, blocks, errors)[at]
        others.pop(blocks.pieces[at].index(number))
        self.assertEqual(gap, (told(max(others)), told(min(others) + 1)))
        if amount[1] == 1:
            return
        colour = blocks.colours[number]
        ends = {whole: signed[number] + colour * (whole - exact(amount)) for whole in choices(amount)}
        z = max(ends.values())
        begin, end = map(exact, gap)
        for whole, point in ends.items():
            self.assertIs(whole in right, z < end if point == z else z > begin)
        self.assertIs(len(right) == 2, begin < z < end)

    def test_kind_in_no_total(self):
        table = Table(("cup", "jam", "tea"), ((0, 2),))
        blocks = court(table)
        self.assertIsNone(gap_beside(table, blocks, ((0, 1),) * 3, 1))
        self.assertEqual(allowed(table, blocks, ((1, 3), (99, 1), (0, 1)), 1, (7, 2)), (3, 4))
        self.assertEqual(allowed(table, blocks, ((1, 3), (99, 1), (0, 1)), 1, (7, 1)), (7,))

    def test_several_kinds_of_one_class(self):
        table = Table(("a", "b", "c"), ((0, 1), (0, 1, 2)))
        blocks = court(table)
        errors = ((5, 2), (-2, 1), (0, 1))
        self.assertEqual(signed_errors(table, blocks, errors), ((1, 2), (0, 1)))
        self.assertEqual(allowed(table, blocks, errors, 1, (1, 4)), (0,))
        self.assertEqual(gap_beside(table, blocks, errors, 0), gap_beside(table, blocks, errors, 1))

    def test_whoever_takes_allowed_wholes_keeps_all(self):
        rng = random.Random(3)
        for table in GOOD[:60]:
            blocks = some_blocks(rng, table)
            errors, day = ((0, 1),) * len(table.kinds), ()
            for kind, amount in random_lines(rng, table, 25):
                whole = rng.choice(allowed(table, blocks, errors, kind, amount))
                errors = behind(errors, kind, amount, whole)
                day += ((kind, amount, whole),)
            self.assertTrue(is_kept_day(table, day))

    def test_four_hundred_lines(self):
        rng = random.Random(4)
        table = Table(NAMES, tuple((at, at + 1) for at in range(11)) + ((11,),))
        blocks = court(table)
        self.assertEqual(count_blocks(table), 2)
        errors, day = ((0, 1),) * 12, ()
        for _ in range(400):
            kind, amount = rng.randrange(12), told(Fraction(rng.randint(-10 ** 6, 10 ** 6), rng.randint(1, 10 ** 6)))
            whole = rng.choice(allowed(table, blocks, errors, kind, amount))
            errors = behind(errors, kind, amount, whole)
            day += ((kind, amount, whole),)
        self.assertIs(is_inside(table, blocks, errors), True)
        self.assertIs(is_day(table, day), True)

    def test_all_grid_errors(self):
        for one, other in product(range(-3, 4), repeat=2):
            errors = ((one, 1) if one % 4 == 0 else told(Fraction(one, 4)), told(Fraction(other, 4)))
            if not is_plain_inside(TABLE, BLOCKS, errors):
                continue
            for kind, top in product((0, 1), range(1, 8)):
                amount = told(Fraction(top, 8))
                right = tuple(whole for whole in choices(amount)
                              if is_plain_inside(TABLE, BLOCKS, behind(errors, kind, amount, whole)))
                self.assertEqual(allowed(TABLE, BLOCKS, errors, kind, amount), right)


if __name__ == "__main__":
    unittest.main()
