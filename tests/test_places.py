"""Promise [36]: places and ends."""

import random
import unittest
from fractions import Fraction
from itertools import product

from centsatonce.court import Blocks, court
from centsatonce.places import all_ends, count_ends, end_of, is_end, places_of
from centsatonce.tables import Table
from centsatonce.window import signed_errors
from tests.helpers import NAMES, Rude, Yes, deep_tuple, exact, kind_errors, odd_values, plain_totals, raised, random_lines
from tests.helpers import rounded, told, with_swapped
from tests.test_window import GOOD, inside_errors, is_plain_inside, plain_signed, some_blocks

TABLE = Table(("cup", "tea"), ((0,), (1,), (0, 1)))
BLOCKS = Blocks((1, -1), ((0, 1),))
LINES = ((0, (1, 2)), (1, (1, 2)), (0, (1, 2)))
TIE = Table(("a", "b", "c"), ((0, 1), (1, 2)))


def plain_ends(table, blocks, lines):
    """The ends, by trying all roundings of the lines, and all signed errors that differ by wholes."""
    errors = tuple(map(told, kind_errors(table, rounded(random.Random(0), lines))))
    signed = plain_signed(table, blocks, errors)
    lone = {total[0] for total in plain_totals(table) if len(total) == 1}
    ranges = []
    for number, one in enumerate(signed):
        part = one - one.__floor__()
        piece = next(piece for piece in blocks.pieces if number in piece)
        first = piece[0] == number and not lone & set(piece)
        ranges.append([part] if first else [part - 1, part, part + 1])
    found = set()
    for some in product(*ranges):
        right = True
        for piece in blocks.pieces:
            points = [some[number] for number in piece] + ([Fraction(0)] if lone & set(piece) else [])
            right = right and max(points) - min(points) < 1
        if right:
            found.add(tuple(map(told, some)))
    return tuple(sorted(found))


class Places(unittest.TestCase):

    def test_all_roundings(self):
        rng = random.Random(1)
        for table in GOOD[:120]:
            blocks = some_blocks(rng, table)
            lines = random_lines(rng, table, rng.randint(0, 6))
            places = places_of(table, blocks, lines)
            for _ in range(5):
                signed = plain_signed(table, blocks, tuple(map(told, kind_errors(table, rounded(rng, lines)))))
                self.assertEqual(places, tuple(told(one - one.__floor__()) for one in signed))

    def test_examples(self):
        self.assertEqual(places_of(lines=LINES, blocks=BLOCKS, table=TABLE), ((0, 1), (1, 2)))
        self.assertEqual(all_ends(TABLE, BLOCKS, LINES), (((0, 1), (-1, 2)), ((0, 1), (1, 2))))
        self.assertEqual(all_ends(lines=LINES, blocks=BLOCKS, table=TABLE), all_ends(TABLE, BLOCKS, LINES))
        self.assertEqual(count_ends(lines=LINES, blocks=BLOCKS, table=TABLE), 2)
        self.assertIs(is_end(value=((0, 1), (1, 2)), lines=LINES, blocks=BLOCKS, table=TABLE), True)
        self.assertEqual(end_of(errors=((0, 1), (1, 2)), blocks=BLOCKS, table=TABLE), ((0, 1), (-1, 2)))
        self.assertEqual(places_of(TABLE, BLOCKS, ((0, (1, 3)),)), ((2, 3), (0, 1)))
        self.assertEqual(places_of(TABLE, BLOCKS, ((1, (1, 3)),)), ((0, 1), (1, 3)))
        empty = Table(("cup",), ())
        self.assertEqual((places_of(empty, court(empty), ((0, (1, 2)),)), all_ends(empty, court(empty), ()),
                          count_ends(empty, court(empty), ()), end_of(empty, court(empty), ((7, 1),))),
                         ((), ((),), 1, ()))
        self.assertIs(is_end(empty, court(empty), (), ()), True)


class Ends(unittest.TestCase):

    def test_all_of_them(self):
        rng = random.Random(2)
        counts = set()
        for table in GOOD[:200]:
            blocks = some_blocks(rng, table)
            lines = random_lines(rng, table, rng.randint(0, 6))
            ends = plain_ends(table, blocks, lines)
            counts.add(len(ends))
            self.assertEqual(count_ends(table, blocks, lines), len(ends))
            self.assertEqual(all_ends(table, blocks, lines), ends)
            for end in ends:
                self.assertIs(is_end(table, blocks, lines, end), True)
            many = 1
            places = places_of(table, blocks, lines)
            for piece in blocks.pieces:
                own = {places[number] for number in piece}
                if any(len(total) == 1 and total[0] in piece for total in plain_totals(table)):
                    own.add((0, 1))
                many *= len(own)
            self.assertEqual(many, len(ends))
        self.assertLessEqual({1, 2, 3, 4}, counts)

    def test_all_roundings_lead_to_ends(self):
        rng = random.Random(3)
        met = 0
        for table in GOOD[:80]:
            blocks = some_blocks(rng, table)
            lines = random_lines(rng, table, rng.randint(1, 5))
            ends, found = all_ends(table, blocks, lines), set()
            lows = [exact(amount).__floor__() for _, amount in lines]
            for ups in product((-1, 0, 1, 2), repeat=len(lines)):
                day = tuple((kind, amount, low + up) for (kind, amount), low, up in zip(lines, lows, ups))
                errors = tuple(map(told, kind_errors(table, day)))
                if is_plain_inside(table, blocks, errors):
                    end = end_of(table, blocks, errors)
                    self.assertIn(end, ends)
                    found.add(end)
            met += found == set(ends)
        self.assertGreater(met, 30)

    def test_end_of(self):
        rng = random.Random(4)
        for table in GOOD[:150]:
            blocks = some_blocks(rng, table)
            errors = inside_errors(rng, table, blocks)
            end, signed = end_of(table, blocks, errors), signed_errors(table, blocks, errors)
            for piece in blocks.pieces:
                fixed = any(len(total) == 1 and total[0] in piece for total in plain_totals(table))
                shift = {exact(signed[number]) - exact(end[number]) for number in piece}
                self.assertEqual(shift, {0} if fixed else {exact(signed[piece[0]]).__floor__()})

    def test_far_from_nothing(self):
        blocks = court(TIE)
        errors = ((77, 2), (-155, 4), (39, 1))
        self.assertEqual(signed_errors(TIE, blocks, errors), ((77, 2), (155, 4), (39, 1)))
        self.assertEqual(end_of(TIE, blocks, errors), ((1, 2), (3, 4), (1, 1)))
        self.assertEqual(end_of(TIE, blocks, ((-1, 4), (1, 4), (-1, 4))), ((3, 4), (3, 4), (3, 4)))

    def test_limit(self):
        table = Table(NAMES, tuple((at, at + 1) for at in range(0, 12, 2)) + tuple((at,) for at in range(0, 12, 2)))
        blocks = court(table)
        self.assertEqual(len(blocks.pieces), 6)

        def lines_of(many):
            """Lines by which so many pieces have three places, and the others two or one."""
            lines = []
            for piece, count in enumerate(many):
                if count > 1:
                    lines.append((2 * piece, (1, 3)))
                if count > 2:
                    lines.append((2 * piece + 1, (1, 2)))
            return tuple(lines)
        for many, count in (((3, 3, 3, 3, 3, 2), 486), ((3, 3, 3, 3, 3, 3), 729), ((3, 3, 3, 3, 3, 1), 243)):
            lines = lines_of(many)
            self.assertEqual(count_ends(table, blocks, lines), count)
            if count > 500:
                self.assertEqual(raised(all_ends, table, blocks, lines), ("Refused", {"word": "size"}))
            else:
                self.assertEqual(len(all_ends(table, blocks, lines)), count)

    def test_five_hundred(self):
        # No pieces of twelve classes have just 500 or 501 ends: 486 and 512 are the nearest numbers.
        cost = {many: min_cost(many) for many in range(480, 520)}
        self.assertEqual(max(many for many in cost if many <= 500 and cost[many] <= 12), 486)
        self.assertEqual(min(many for many in cost if many > 500 and cost[many] <= 12), 512)
        table = Table(NAMES, tuple((kind,) for kind in range(12)))
        blocks = court(table)
        for many in (8, 9):
            lines = tuple((kind, (1, 3)) for kind in range(many))
            self.assertEqual(count_ends(table, blocks, lines), 2 ** many)
            self.assertEqual(raised(all_ends, table, blocks, lines), ("Refused", {"word": "size"}) if many == 9 else None)


def min_cost(many):
    """The least number of classes of which some pieces have so many ends."""
    if many == 1:
        return 0
    return min((size - 1 + min_cost(many // size) for size in range(2, many + 1) if many % size == 0))


class AnyValue(unittest.TestCase):

    def test_nearly_ends(self):
        right = ((0, 1), (1, 2))
        self.assertIs(is_end(TABLE, BLOCKS, LINES, right), True)
        for value in [((0, 1), (3, 2)), ((1, 1), (1, 2)), ((-1, 1), (-1, 2)), ((0, 1), (-3, 2)), ((0, 1), (1, 3)),
                      ((0, 1),), right + ((0, 1),), list(right), ((0, 1), [1, 2]), ((0, 1), (2, 4)), ((0, 2), (1, 2)),
                      ((0, 1), (1, -2)), ((0, 1), 0), ((0, 1), (1, 2, 1)), ((0, True), (1, 2)), ((False, 1), (1, 2)),
                      ((0.0, 1), (1, 2)), ((1, 2), (0, 1))]:
            self.assertIs(is_end(TABLE, BLOCKS, LINES, value), False)

    def test_first_class_of_a_piece_that_is_not_fixed(self):
        blocks, lines = court(TIE), ((0, (1, 4)), (1, (1, 2)))
        for end in all_ends(TIE, blocks, lines):
            self.assertEqual(end[0], (3, 4))
            for shift in (-1, 1):
                value = tuple(told(exact(one) + shift) for one in end)
                self.assertIs(is_end(TIE, blocks, lines, value), False)

    def test_other_values(self):
        right = ((0, 1), (1, 2))
        for other in (True, False, None, 1.0, "1", [], Rude(), Yes(), 7, -2, deep_tuple(2000)):
            for value in with_swapped(right, other):
                self.assertIs(is_end(TABLE, BLOCKS, LINES, value), False)
        for value in odd_values() + [(), (10 ** 4000, 1), ((10 ** 4000, 1), (1, 2))]:
            self.assertIs(is_end(TABLE, BLOCKS, LINES, value), False)
            self.assertIs(is_end(TABLE, BLOCKS, LINES, (value, (1, 2))), False)
            self.assertIs(is_end(TABLE, BLOCKS, LINES, ((0, 1), value)), False)


if __name__ == "__main__":
    unittest.main()
