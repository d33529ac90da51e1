"""Promise [64], what it says of BegunPaper, LostWay, begun_paper and is_begun_paper."""

import random
import unittest
from fractions import Fraction
from itertools import permutations, product

from centsatonce.begun import no_starts
from centsatonce.begunheights import UnevenRing, begun_heights, uneven_ring
from centsatonce.begunpapers import BegunPaper, LostWay, begun_paper, is_begun_paper
from centsatonce.court import Blocks, court, is_good
from centsatonce.heldpapers import held_paper
from centsatonce.knots import Knot, is_knot
from centsatonce.tables import Table
from centsatonce.walks import can_go_on
from tests.helpers import NAMES, OTHERS, exact, odd_objects, odd_values, plain_classes, plain_totals, random_fraction
from tests.helpers import random_tables, swapped_objects, told
from tests.test_begunheights import TWICE, all_even_rings, by_turns, spoilt_starts, starts_of
from tests.test_spoils import ring_table
from tests.test_window import plain_signed, some_blocks

TABLES = random_tables(164, 260, most_kinds=4, most_totals=6, sizes=(0, 1, 1, 2, 2, 2), least_kinds=1)
TABLES += [ring_table(3), ring_table(4), ring_table(5)]
GOOD = [table for table in TABLES if is_good(table)]
PATH = Table(("a", "b", "c"), ((0, 1), (1, 2), (2,), (2,)))


def counted(table, starts, errors):
    return [sum((exact(errors[kind]) for kind in total), Fraction(0)) - exact(start)
            for total, start in zip(table.totals, starts)]


def is_plain_way(table, starts, errors, joints, totals):
    """Whether joints and totals, numbers of what is there, are a right LostWay, by the words of the promise."""
    rows = [set(plain_totals(table)[total]) for total in totals]
    if len(set(joints)) != len(joints) or len(totals) != len(joints) + 1 or any(len(row) not in (1, 2) for row in rows):
        return False
    if any(joint not in rows[at] or joint not in rows[at + 1] for at, joint in enumerate(joints)):
        return False
    if any(rows[at] != {joints[at - 1], joints[at]} for at in range(1, len(rows) - 1)):
        return False
    if joints:
        ends = [row - {joint} for row, joint in ((rows[0], joints[0]), (rows[-1], joints[-1]))]
        if any(end & set(joints) for end in ends) or (ends[0] and ends[0] == ends[1]):
            return False
        if not ends[0] and not ends[1] and totals[0] == totals[-1]:
            return False
    every = counted(table, starts, errors)
    return abs(sum(every[total] * (-1) ** at for at, total in enumerate(totals))) >= 1


def every_way(table):
    """All tuples of few joints and of one total more."""
    classes, totals = range(len(plain_classes(table))), range(len(table.totals))
    for many in range(min(4, len(classes) + 1)):
        for joints in permutations(classes, many):
            rows = [[total for total in totals if set(joints[max(0, at - 1):at + 1]) <= set(plain_totals(table)[total])]
                    for at in range(many + 1)]
            for chosen in product(*rows):
                yield joints, chosen


def plain_begun_points(table, blocks, starts, heights, errors):
    signed = plain_signed(table, blocks, errors)
    found = []
    for piece in blocks.pieces:
        points = [signed[number] - exact(heights[number]) for number in piece]
        for total, start in zip(plain_totals(table), starts):
            if len(total) == 1 and total[0] in piece:
                points.append(exact(start) * blocks.colours[total[0]] - exact(heights[total[0]]))
        found.append(points)
    return found


def can_be_begun(table, starts, errors):
    """Whether there is a right BegunPaper: heights, by which all points of each piece are less than 1 apart."""
    if not is_good(table) or begun_heights(table, starts) is None:
        return False
    points = plain_begun_points(table, court(table), starts, begun_heights(table, starts), errors)
    return all(max(own) - min(own) < 1 for own in points)


def cases(seed, many):
    rng = random.Random(seed)
    for table in TABLES:
        for _ in range(many):
            starts = tuple(random_fraction(rng, 1, (1, 2)) if total else (0, 1) for total in table.totals)
            if is_good(table):
                starts = starts_of(rng, table, tuple(random_fraction(rng, 1, (1, 2)) for _ in plain_classes(table)))
                if rng.random() < 0.3:
                    starts = spoilt_starts(rng, table, starts)
            errors = tuple(random_fraction(rng, 1, (1, 2, 3)) for _ in table.kinds)
            yield rng, table, starts, errors


class Papers(unittest.TestCase):

    def test_first_kind_that_can_be_right(self):
        seen = {}
        for rng, table, starts, errors in cases(1, 4):
            paper = begun_paper(table, starts, errors)
            self.assertIs(is_begun_paper(table, starts, errors, paper), True)
            uneven = [ring for ring in all_even_rings(table) if by_turns(starts, ring[1])]
            ways = [way for way in every_way(table) if is_plain_way(table, starts, errors, *way)]
            if not is_good(table):
                self.assertIs(is_knot(table, paper), True)
            elif uneven:
                self.assertIsInstance(paper, UnevenRing)
                self.assertIn((paper.classes, paper.totals), uneven)
            elif ways:
                self.assertIsInstance(paper, LostWay)
                self.assertTrue(is_plain_way(table, starts, errors, paper.joints, paper.totals))
            else:
                self.assertIsInstance(paper, BegunPaper)
            self.assertIs(isinstance(paper, BegunPaper), can_be_begun(table, starts, errors))
            self.assertIs(isinstance(paper, BegunPaper), can_go_on(table, starts, errors))
            name = paper.__class__.__name__
            seen[name] = seen.get(name, 0) + 1
        self.assertEqual(sorted(seen), ["BegunPaper", "Knot", "LostWay", "UnevenRing"])
        self.assertGreater(min(seen.values()), 20, seen)

    def test_all_ways(self):
        seen = {True: 0, False: 0}
        for rng, table, starts, errors in cases(2, 1):
            for joints, totals in list(every_way(table))[:150]:
                right = is_plain_way(table, starts, errors, joints, totals)
                self.assertIs(is_begun_paper(table, starts, errors, LostWay(joints, totals)), right, (table.totals, joints, totals))
                self.assertFalse(right and can_go_on(table, starts, errors))
                seen[right] += 1
        self.assertGreater(min(seen.values()), 100, seen)

    def test_any_heights_and_bounds(self):
        seen = {True: 0, False: 0}
        for rng, table, starts, errors in cases(3, 2):
            if not is_good(table):
                continue
            blocks = some_blocks(rng, table)
            heights = begun_heights(table, starts)
            if heights is None:
                heights = tuple((0, 1) for _ in plain_classes(table))
            # Heights of a piece may all be moved alike; by other colours they change their signs.
            turned = court(table).colours
            heights = [told(exact(height) * one * other) for height, one, other in zip(heights, turned, blocks.colours)]
            for piece in blocks.pieces:
                shift = rng.choice((0, Fraction(1, 3), -5))
                for number in piece:
                    heights[number] = told(exact(heights[number]) + shift)
            if heights and rng.random() < 0.2:
                heights[rng.randrange(len(heights))] = (99, 7)
            heights = tuple(heights)
            points = plain_begun_points(table, blocks, starts, heights, errors)
            least = tuple(told(min(own) - rng.choice((0, 0, Fraction(1, 9), -Fraction(1, 9)))) for own in points)
            fits = all(exact(start) == sum(exact(heights[number]) * blocks.colours[number] for number in total)
                       for total, start in zip(plain_totals(table), starts) if len(total) == 2)
            right = fits and all(exact(low) <= min(own) and max(own) < exact(low) + 1 for own, low in zip(points, least))
            self.assertIs(is_begun_paper(table, starts, errors, BegunPaper(blocks, heights, least)), right)
            self.assertFalse(right and not can_go_on(table, starts, errors))
            seen[right] += 1
        self.assertGreater(min(seen.values()), 60, seen)

    def test_without_starts(self):
        rng = random.Random(4)
        for table in TABLES:
            errors = tuple(random_fraction(rng, 1, (1, 2, 3)) for _ in table.kinds)
            held = held_paper(table, errors).__class__.__name__
            begun = begun_paper(table, no_starts(table), errors).__class__.__name__
            self.assertEqual(begun, {"HeldPaper": "BegunPaper", "LostPaper": "LostWay", "Knot": "Knot"}[held])

    def test_ways_of_one_total_and_of_two_alike(self):
        one = Table(("a", "b"), ((0,), (0,), (0, 1)))
        starts, errors = ((0, 1), (3, 2), (0, 1)), ((1, 2), (0, 1))
        for joints, totals, right in (((), (0,), False), ((), (1,), True), ((0,), (0, 1), True), ((0,), (1, 0), True),
                                      ((0,), (1, 1), False), ((0,), (1, 2), True), ((0,), (2, 1), True), ((1,), (2, 2), False),
                                      ((), (), False), ((), (1, 0), False), ((0, 1), (1, 2), False), ((1,), (1, 2), False)):
            self.assertIs(is_begun_paper(one, starts, errors, LostWay(joints, totals)), right, (joints, totals))
        # Two totals that tie the same two classes make no way, but a ring.
        starts = ((5, 1), (0, 1), (0, 1))
        self.assertIs(is_begun_paper(TWICE, starts, ((0, 1), (0, 1)), LostWay((0,), (0, 1))), False)
        self.assertIs(is_begun_paper(TWICE, starts, ((0, 1), (0, 1)), UnevenRing((0, 1), (0, 1))), True)
        self.assertIs(is_begun_paper(TWICE, starts, ((0, 1), (0, 1)), LostWay((), (0,))), True)

    def test_nearly_ways(self):
        # All counted errors are far off, so that nothing but the form is asked.
        table = Table(("a", "b", "c", "d"), ((0, 1), (1, 2), (2, 3), (3,), (0, 1, 2), (), (0, 1)))
        starts, errors = ((0, 1),) * 7, ((99, 1), (0, 1), (500, 1), (0, 1))
        for joints, totals, right in (((1,), (0, 1), True), ((1, 2), (0, 1, 2), True), ((1, 2, 3), (0, 1, 2, 3), True),
                                      ((2,), (0, 1), False), ((0,), (0, 1), False), ((1, 1), (0, 1, 1), False),
                                      ((2, 1), (0, 1, 2), False), ((1, 3), (0, 1, 2), False), ((1,), (0, 2), False),
                                      ((), (4,), False), ((), (0,), True), ((), (5,), False), ((2,), (4, 2), False),
                                      ((2,), (1, 4), False), ((1, 2), (0, 4, 2), False), ((0,), (0, 6), False),
                                      ((0, 1), (6, 0, 1), False), ((1, 0), (1, 0, 6), False), ((3,), (2, 3), True),
                                      ((3, 2, 1), (3, 2, 1, 0), True), ((1,), (0, 1, 2), False), ((1, 2), (0, 1), False)):
            self.assertIs(is_begun_paper(table, starts, errors, LostWay(joints, totals)), right, (joints, totals))
            self.assertIs(is_plain_way(table, starts, errors, joints, totals), right, (joints, totals))

    def test_rings_by_a_millionth(self):
        starts = ((1, 2), (500001, 10 ** 6), (0, 1))
        for errors in (((0, 1), (0, 1)), ((1, 3), (-1, 3))):
            paper = begun_paper(errors=errors, starts=starts, table=TWICE)
            self.assertIsInstance(paper, UnevenRing)
            self.assertIs(is_begun_paper(value=paper, errors=errors, starts=starts, table=TWICE), True)
            self.assertIs(can_go_on(TWICE, starts, errors), False)

    def test_right_without_blocks(self):
        ring = ring_table(3)
        errors = ((1, 2), (1, 2), (0, 1))
        self.assertIs(is_begun_paper(ring, no_starts(ring), errors, LostWay((), (0,))), True)
        self.assertIs(is_begun_paper(ring, no_starts(ring), ((0, 1), (1, 1), (1, 4)), LostWay((1,), (0, 1))), False)
        self.assertIs(is_begun_paper(ring, no_starts(ring), ((0, 1), (0, 1), (-1, 1)), LostWay((1,), (0, 1))), True)
        self.assertIs(is_begun_paper(ring, no_starts(ring), errors, begun_paper(ring, no_starts(ring), errors)), True)
        self.assertIs(is_begun_paper(ring, no_starts(ring), errors, BegunPaper(court(ring), ((0, 1),) * 3, ((0, 1),))), False)

    def test_very_long_errors(self):
        rng = random.Random(5)
        bottom = 10 ** 3999 + 7
        line = Table(NAMES, tuple((at, at + 1) for at in range(11)) + ((11,),))
        errors = tuple(told(Fraction(rng.randint(0, bottom - 1), bottom) * (-1) ** (at + 1)) for at in range(12))
        starts = no_starts(line)
        paper = begun_paper(line, starts, errors)
        self.assertIsInstance(paper, BegunPaper)
        self.assertIs(is_begun_paper(line, starts, errors, paper), True)
        far = errors[:4] + (told(exact(errors[4]) + 3),) + errors[5:]
        self.assertIs(is_begun_paper(line, starts, far, paper), False)
        self.assertIs(is_begun_paper(line, starts, far, begun_paper(line, starts, far)), True)

    def test_attributes(self):
        paper, way = BegunPaper(least=1, heights=2, blocks=3), LostWay(totals=4, joints=5)
        self.assertEqual((paper.blocks, paper.heights, paper.least, way.joints, way.totals), (3, 2, 1, 5, 4))


class AnyValue(unittest.TestCase):

    def setUp(self):
        self.starts = ((1, 6), (1, 6), (1, 4), (1, 2))
        self.errors = ((1, 3), (0, 1), (1, 3))
        self.right = BegunPaper(court(PATH), ((0, 1), (-1, 6), (0, 1)), ((1, 6),))

    def check(self, value, starts=None, errors=None):
        self.assertIs(is_begun_paper(PATH, starts or self.starts, errors or self.errors, value), False)

    def test_right_ones(self):
        self.assertIs(is_begun_paper(PATH, self.starts, self.errors, self.right), True)
        made = begun_paper(PATH, self.starts, self.errors)
        self.assertEqual((made.heights, made.blocks.colours), (self.right.heights, self.right.blocks.colours))

    def test_other_values(self):
        for value in odd_values() + odd_objects(BegunPaper, 3) + odd_objects(LostWay, 2) + odd_objects(UnevenRing, 2):
            self.check(value)
            self.check(BegunPaper(value, self.right.heights, self.right.least))
            self.check(BegunPaper(self.right.blocks, value, self.right.least))
            self.check(BegunPaper(self.right.blocks, self.right.heights, value))
            self.check(LostWay(value, (0, 1)))
            self.check(LostWay((1,), value))
        for value in odd_objects(Blocks, 2) + odd_objects(Knot, 3):
            self.check(value)
            self.check(BegunPaper(value, self.right.heights, self.right.least))

    def test_spoilt_at_any_place(self):
        parts = (self.right.blocks, self.right.heights, self.right.least)
        for other in [other for other in OTHERS if type(other) is not int]:
            for value in swapped_objects(BegunPaper, parts, other):
                self.check(value)
            for blocks in swapped_objects(Blocks, (parts[0].colours, parts[0].pieces), other):
                self.check(BegunPaper(blocks, parts[1], parts[2]))
        errors = ((1, 3), (0, 1), (9, 1))
        self.assertIs(is_begun_paper(PATH, self.starts, errors, LostWay((1,), (0, 1))), True)
        for other in OTHERS:
            for value in swapped_objects(LostWay, ((1,), (0, 1)), other):
                self.check(value, None, errors)

    def test_spoilt_rings_and_knots(self):
        starts = ((1, 2), (1, 3), (0, 1))
        self.assertIsInstance(uneven_ring(TWICE, starts), UnevenRing)
        for value in (UnevenRing((0, 1), (0, 2)), UnevenRing([0, 1], (0, 1)), UnevenRing((0, 1), (0, True)),
                      Knot("ring", (0, 1, 0), (0, 1, 0)), Knot("three", 0, (0, 1)), ring_table(3), court(TWICE)):
            self.assertIs(is_begun_paper(TWICE, starts, ((0, 1), (0, 1)), value), False)


if __name__ == "__main__":
    unittest.main()
