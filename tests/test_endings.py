"""Promise [37]: all ends come about."""

import random
import unittest
from fractions import Fraction

from centsatonce.court import Blocks, court
from centsatonce.days import errors_of
from centsatonce.endings import calm_end, count_window_days, day_to
from centsatonce.places import all_ends, count_ends, end_of, places_of
from centsatonce.tables import Table
from centsatonce.windowdays import is_window_day
from tests.helpers import NAMES, Rude, Yes, deep_tuple, exact, odd_values, plain_totals, raised, random_fraction
from tests.helpers import random_lines, told, with_swapped
from tests.test_window import GOOD, some_blocks
from tests.test_windowdays import LONG, all_roundings, is_plain_window_day

TABLE = Table(("cup", "tea"), ((0,), (1,), (0, 1)))
BLOCKS = Blocks((1, -1), ((0, 1),))
LINES = ((0, (1, 2)), (1, (1, 2)), (0, (1, 2)))
NO_END = ("Refused", {"word": "end"})


def is_fixed(table, piece):
    return any(len(total) == 1 and total[0] in piece for total in plain_totals(table))


def span_in(table, piece, end):
    """The span of a piece by an end."""
    points = [exact(end[number]) for number in piece] + [Fraction(0)] * is_fixed(table, piece)
    return max(points) - min(points)


def cases(seed, many, most):
    """Good tables with some of their blocks, and lines of theirs."""
    rng = random.Random(seed)
    for table in GOOD[:many]:
        yield table, some_blocks(rng, table), random_lines(rng, table, rng.randint(0, most))


class Ends(unittest.TestCase):

    def test_all_roundings(self):
        for table, blocks, lines in cases(1, 200, 6):
            days = [day for day in all_roundings(lines) if is_plain_window_day(table, blocks, day)]
            self.assertEqual(count_window_days(table, blocks, lines), len(days))
            met = {end_of(table, blocks, errors_of(table, day)) for day in days}
            self.assertEqual(met, set(all_ends(table, blocks, lines)))
            for end in met:
                day = day_to(table, blocks, lines, end)
                self.assertIn(day, days)
                self.assertEqual(end_of(table, blocks, errors_of(table, day)), end)

    def test_calm_ends(self):
        spans = set()
        for table, blocks, lines in cases(2, 250, 9):
            ends = all_ends(table, blocks, lines)
            calm = calm_end(table, blocks, lines)
            self.assertIn(calm, ends)
            places = places_of(table, blocks, lines)
            for piece in blocks.pieces:
                span = span_in(table, piece, calm)
                self.assertEqual(span, min(span_in(table, piece, end) for end in ends))
                unlike = {places[number] for number in piece} | ({(0, 1)} if is_fixed(table, piece) else set())
                self.assertLessEqual(span, Fraction(len(unlike) - 1, len(unlike)))
                spans.add(span)
        self.assertGreater(len(spans), 10)

    def test_calmest_can_be_no_calmer(self):
        table = Table(("a", "b", "c"), ((0,), (0, 1), (1, 2)))
        # The places are on a ring of length 1: what is left of it without the greatest gap is the span.
        for tops, span in (((1, 2, 3), (3, 4)), ((1, 2, 1), (1, 2)), ((1, 1, 2), (3, 4)), ((1, 0, 0), (1, 4)),
                           ((0, 0, 0), (0, 1)), ((2, 2, 2), (1, 2)), ((3, 1, 3), (1, 4))):
            lines = tuple((kind, told(Fraction(top, 4))) for kind, top in enumerate(tops))
            self.assertEqual(told(span_in(table, (0, 1, 2), calm_end(table, court(table), lines))), span)

    def test_examples(self):
        self.assertEqual(count_window_days(lines=LINES, blocks=BLOCKS, table=TABLE), 2)
        self.assertEqual(day_to(TABLE, BLOCKS, LINES, ((0, 1), (-1, 2))), ((0, (1, 2), 0), (1, (1, 2), 1), (0, (1, 2), 1)))
        self.assertEqual(day_to(end=((0, 1), (1, 2)), lines=LINES, blocks=BLOCKS, table=TABLE),
                         ((0, (1, 2), 1), (1, (1, 2), 0), (0, (1, 2), 0)))
        self.assertIn(calm_end(lines=LINES, blocks=BLOCKS, table=TABLE), all_ends(TABLE, BLOCKS, LINES))
        empty = Table(("cup",), ())
        self.assertEqual((day_to(empty, court(empty), ((0, (2, 1)),), ()), calm_end(empty, court(empty), ()),
                          count_window_days(empty, court(empty), ((0, (1, 2)),) * 70),
                          count_window_days(empty, court(empty), ((0, (2, 1)),) * 70)), (((0, (2, 1), 2),), (), 2 ** 70, 1))

    def test_four_hundred_lines(self):
        rng = random.Random(3)
        for kinds in (range(12), (0,), (0, 11), (4, 5, 6)):
            lines = tuple((rng.choice(kinds), told(Fraction(rng.randint(-10 ** 6, 10 ** 6), rng.randint(1, 10 ** 6))))
                          for _ in range(400))
            ends = all_ends(LONG, court(LONG), lines)
            self.assertGreaterEqual(count_window_days(LONG, court(LONG), lines), len(ends))
            for end in (ends[0], ends[-1], calm_end(LONG, court(LONG), lines)):
                day = day_to(LONG, court(LONG), lines, end)
                self.assertIs(is_window_day(LONG, court(LONG), day), True)
                self.assertEqual(end_of(LONG, court(LONG), errors_of(LONG, day)), end)

    def test_many_pieces(self):
        # Each of twelve pieces has two ends, but all together have more than can be told one by one.
        table = Table(NAMES, tuple((kind,) for kind in range(12)))
        lines = tuple((kind, (1, 3)) for kind in range(12)) * 2
        self.assertEqual(count_ends(table, court(table), lines), 4096)
        self.assertEqual(count_window_days(table, court(table), lines), 3 ** 12)
        end = tuple(((1, 3), (-2, 3))[kind % 2] for kind in range(12))
        day = day_to(table, court(table), lines, end)
        self.assertEqual(end_of(table, court(table), errors_of(table, day)), end)
        self.assertEqual(calm_end(table, court(table), lines[:12]), (((-1, 3),) * 12))

    def test_counts_grow_as_they_may(self):
        one = Table(("cup",), ((0,),))
        halves = [count_window_days(one, court(one), ((0, (1, 2)),) * many) for many in range(7)]
        self.assertEqual(halves, [1, 2, 2, 4, 4, 8, 8])
        tie = Table(("a", "b"), ((0, 1), ()))
        self.assertEqual(count_window_days(tie, court(tie), ((0, (1, 2)),) * 6), 8)


class AnyValue(unittest.TestCase):

    def test_other_values(self):
        right = ((0, 1), (1, 2))
        for other in (True, False, None, 1.0, "1", [], Rude(), Yes(), 7, -2, deep_tuple(2000)):
            for value in with_swapped(right, other):
                self.assertEqual(raised(day_to, TABLE, BLOCKS, LINES, value), NO_END)
        for value in odd_values() + [(), right[:1], right + right[:1], list(right), ((0, 1), (3, 2)), ((1, 1), (1, 2)),
                                     ((0, 1), (2, 4)), ((0, 1), (1, 3)), ((1, 2), (0, 1))]:
            self.assertEqual(raised(day_to, TABLE, BLOCKS, LINES, value), NO_END)
            self.assertEqual(raised(day_to, TABLE, BLOCKS, LINES, (value, (1, 2))), NO_END)

    def test_first_class_of_a_piece_that_is_not_fixed(self):
        tie = Table(("a", "b", "c"), ((0, 1), (1, 2)))
        lines = ((0, (1, 4)), (1, (1, 2)))
        for end in all_ends(tie, court(tie), lines):
            self.assertIsNone(raised(day_to, tie, court(tie), lines, end))
            for shift in (-1, 1):
                value = tuple(told(exact(one) + shift) for one in end)
                self.assertEqual(raised(day_to, tie, court(tie), lines, value), NO_END)

    def test_random_ends(self):
        rng = random.Random(4)
        seen = {True: 0, False: 0}
        for table, blocks, lines in cases(5, 150, 5):
            ends = all_ends(table, blocks, lines)
            for _ in range(5):
                value = list(rng.choice(ends))
                if value and rng.random() < 0.7:
                    at = rng.randrange(len(value))
                    value[at] = rng.choice((told(exact(value[at]) + rng.choice((-1, 1))), random_fraction(rng, 3)))
                right = tuple(value) in ends
                self.assertEqual(raised(day_to, table, blocks, lines, tuple(value)), None if right else NO_END)
                seen[right] += 1
        self.assertGreater(min(seen.values()), 100)


if __name__ == "__main__":
    unittest.main()
