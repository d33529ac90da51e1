"""Promise [64], what it says of heights and of uneven rings."""

import random
import unittest
from fractions import Fraction

from centsatonce.begun import no_starts
from centsatonce.begunheights import UnevenRing, begun_heights, is_uneven_ring, uneven_ring
from centsatonce.court import court, is_good
from centsatonce.tables import Table
from tests.helpers import NAMES, OTHERS, exact, odd_objects, odd_values, plain_classes, plain_totals, raised, random_fraction
from tests.helpers import random_tables, swapped_objects, told
from tests.test_spoils import ring_table

TABLES = random_tables(64, 300, most_kinds=5, most_totals=7, sizes=(0, 1, 2, 2, 2, 2), least_kinds=2)
GOOD = [table for table in TABLES if is_good(table)]
BAD = [table for table in TABLES if not is_good(table)]
TWICE = Table(("a", "b"), ((0, 1), (0, 1), (0,)))
KNOT = ("Refused", {"word": "knot"})


def all_even_rings(table):
    """All pairs of classes and totals on even rings, with every first class and both ways round."""
    beyond = {}
    for at, total in enumerate(plain_totals(table)):
        if len(total) == 2:
            beyond.setdefault(total[0], []).append((total[1], at))
            beyond.setdefault(total[1], []).append((total[0], at))
    found = []
    rows = [((number,), ()) for number in beyond]
    while rows:
        classes, along = rows.pop()
        for number, at in beyond[classes[-1]]:
            if number == classes[0] and len(classes) % 2 == 0:
                found.append((classes, along + (at,)))
            if number not in classes:
                rows.append((classes + (number,), along + (at,)))
    return found


def by_turns(starts, totals):
    return sum(exact(starts[total]) * (-1) ** at for at, total in enumerate(totals))


def starts_of(rng, table, heights):
    """The starts that belong to some heights of the classes, and any for totals of one class."""
    colours = court(table).colours
    starts = []
    for total in plain_totals(table):
        if len(total) == 2:
            starts.append(told(sum(exact(heights[number]) * colours[number] for number in total)))
        else:
            starts.append(random_fraction(rng, 3) if total else (0, 1))
    return tuple(starts)


def spoilt_starts(rng, table, starts):
    """Starts of which one of a tie is another one, by a little or by much."""
    ties = [at for at, total in enumerate(plain_totals(table)) if len(total) == 2]
    if not ties:
        return starts
    at = rng.choice(ties)
    return starts[:at] + (told(exact(starts[at]) + rng.choice((1, -1, Fraction(1, 10 ** 6), -Fraction(1, 3)))),) + starts[at + 1:]


def are_plain_heights(table, starts, heights):
    colours = court(table).colours
    for total, start in zip(plain_totals(table), starts):
        if len(total) == 2 and sum(exact(heights[number]) * colours[number] for number in total) != exact(start):
            return False
    return True


class Heights(unittest.TestCase):

    def test_drawn_heights(self):
        rng = random.Random(1)
        for table in GOOD:
            drawn = tuple(random_fraction(rng) for _ in plain_classes(table))
            starts = starts_of(rng, table, drawn)
            heights = begun_heights(table, starts)
            for piece in court(table).pieces:
                for number in piece:
                    self.assertEqual(exact(heights[number]), exact(drawn[number]) - exact(drawn[piece[0]]))
            self.assertIsNone(uneven_ring(table, starts))

    def test_heights_or_a_ring(self):
        rng = random.Random(2)
        seen = {True: 0, False: 0}
        for table in GOOD:
            for _ in range(3):
                starts = starts_of(rng, table, tuple(random_fraction(rng, 3) for _ in plain_classes(table)))
                starts = spoilt_starts(rng, table, starts)
                uneven = [ring for ring in all_even_rings(table) if by_turns(starts, ring[1])]
                heights, ring = begun_heights(table, starts), uneven_ring(table, starts)
                self.assertIs(heights is None, bool(uneven))
                self.assertIs(ring is None, not uneven)
                if uneven:
                    self.assertIn((ring.classes, ring.totals), uneven)
                    self.assertIs(is_uneven_ring(table, starts, ring), True)
                else:
                    self.assertTrue(are_plain_heights(table, starts, heights))
                    self.assertTrue(all(heights[piece[0]] == (0, 1) for piece in court(table).pieces))
                seen[bool(uneven)] += 1
        self.assertGreater(min(seen.values()), 50)

    def test_no_starts(self):
        for table in GOOD:
            self.assertEqual(begun_heights(table, no_starts(table)), ((0, 1),) * len(plain_classes(table)))
            self.assertIsNone(uneven_ring(table, no_starts(table)))

    def test_examples(self):
        starts = ((1, 2), (1, 2), (5, 1))
        self.assertEqual(begun_heights(starts=starts, table=TWICE), ((0, 1), (-1, 2)))
        self.assertIsNone(uneven_ring(starts=starts, table=TWICE))
        starts = ((1, 2), (500001, 1000000), (0, 1))
        self.assertIsNone(begun_heights(TWICE, starts))
        ring = uneven_ring(TWICE, starts)
        self.assertEqual((sorted(ring.classes), sorted(ring.totals)), ([0, 1], [0, 1]))
        made = UnevenRing(totals=1, classes=2)
        self.assertEqual((made.classes, made.totals), (2, 1))
        self.assertEqual(begun_heights(Table(("a",), ((),)), ((0, 1),)), ())

    def test_twelve_classes(self):
        ring = ring_table(12)
        starts = ((1, 10 ** 4000),) + ((0, 1),) * 11
        self.assertIsNone(begun_heights(ring, starts))
        self.assertEqual(len(uneven_ring(ring, starts).classes), 12)
        heights = begun_heights(ring, ((1, 10 ** 4000),) * 12)
        self.assertEqual(set(heights), {(0, 1), (-1, 10 ** 4000)})
        self.assertTrue(are_plain_heights(ring, ((1, 10 ** 4000),) * 12, heights))

    def test_refused(self):
        self.assertGreater(len(BAD), 20)
        for table in BAD + [ring_table(3)]:
            self.assertEqual(raised(begun_heights, table, no_starts(table)), KNOT)
            self.assertEqual(raised(uneven_ring, table, no_starts(table)), KNOT)


class Rings(unittest.TestCase):

    def test_all_rings(self):
        rng = random.Random(3)
        seen = {True: 0, False: 0}
        for table in TABLES:
            starts = tuple(random_fraction(rng, 1, (1, 2)) for _ in table.totals)
            for classes, totals in all_even_rings(table)[:30]:
                right = bool(by_turns(starts, totals))
                self.assertIs(is_uneven_ring(table, starts, UnevenRing(classes, totals)), right)
                seen[right] += 1
        self.assertGreater(min(seen.values()), 100)

    def test_right_without_blocks(self):
        # A square with a diagonal: odd rings, and one even ring.
        table = Table(NAMES[:4], ((0, 1), (1, 2), (2, 3), (0, 3), (0, 2)))
        starts = ((1, 2), (0, 1), (0, 1), (0, 1), (0, 1))
        self.assertIs(is_uneven_ring(table, starts, UnevenRing((0, 1, 2, 3), (0, 1, 2, 3))), True)
        self.assertIs(is_uneven_ring(table, no_starts(table), UnevenRing((0, 1, 2, 3), (0, 1, 2, 3))), False)
        self.assertIs(is_uneven_ring(table, starts, UnevenRing((0, 1, 2), (0, 1, 4))), False)

    def test_nearly_right(self):
        starts = ((1, 2), (1, 3), (0, 1))
        for classes, totals, right in (((0, 1), (0, 1), True), ((1, 0), (0, 1), True), ((0, 1), (1, 0), True),
                                       ((0, 1), (0, 0), False), ((0, 1), (0, 2), False), ((0,), (0,), False),
                                       ((0, 1, 0, 1), (0, 1, 0, 1), False), ((0, 0), (0, 1), False), ((), (), False),
                                       ((0, 1), (0, 1, 0), False), ((0, 1), (0,), False), ([0, 1], (0, 1), False),
                                       ((0, 1), [0, 1], False), ((False, 1), (0, 1), False), ((0, 1), (0, True), False),
                                       ((0, 2), (0, 1), False), ((0, 1), (0, 3), False), ((0, -1), (0, 1), False)):
            self.assertIs(is_uneven_ring(TWICE, starts, UnevenRing(classes, totals)), right)

    def test_other_values(self):
        table = Table(("a", "b", "c"), ((1, 2), (1, 2), (1,), (0,)))
        starts = ((1, 2), (1, 3), (0, 1), (0, 1))
        self.assertIs(is_uneven_ring(table, starts, UnevenRing((1, 2), (0, 1))), True)
        for value in odd_values() + odd_objects(UnevenRing, 2):
            self.assertIs(is_uneven_ring(table, starts, value), False)
        for other in OTHERS:
            for value in swapped_objects(UnevenRing, ((1, 2), (0, 1)), other):
                self.assertIs(is_uneven_ring(table, starts, value), False)


if __name__ == "__main__":
    unittest.main()
