"""Promise [51], what it says of papers."""

import random
import unittest
from fractions import Fraction
from itertools import product

from centsatonce.court import Blocks, court, is_good, repainted
from centsatonce.fewest import least_lines
from centsatonce.held import are_held
from centsatonce.heldpapers import HeldPaper, LostPaper, held_paper, is_held_paper
from centsatonce.knots import Knot, is_knot
from centsatonce.tables import Table
from tests.helpers import NAMES, OTHERS, exact, odd_objects, odd_values, plain_classes, plain_totals, random_fraction
from tests.helpers import random_tables, swapped_objects, told
from tests.test_spoils import ring_table
from tests.test_window import is_plain_inside, plain_points, some_blocks

TABLES = random_tables(51, 250, most_kinds=5, most_totals=5, sizes=(0, 1, 2, 2, 2))
GOOD = [table for table in TABLES if is_good(table)]
TABLE = Table(("bun", "cup", "jam", "tea"), ((0, 1), (1, 2), (2, 3), (3,)))
ERRORS = ((1, 2), (0, 1), (-1, 3), (2, 3))
RING = ring_table(3)


def total_errors_of(table, errors):
    return [sum((exact(errors[kind]) for kind in total), Fraction(0)) for total in table.totals]


def all_post_ways(table):
    """All ways, by the words of [49]: pairs of posts and totals."""
    ground = len(plain_classes(table))
    ends = [total + (ground,) if len(total) == 1 else total for total in plain_totals(table)]
    rows = [((post,), ()) for post in range(ground + 1)]
    found = list(rows)
    while rows:
        posts, totals = rows.pop()
        if posts[-1] == ground and len(posts) > 1:
            continue
        for at, pair in enumerate(ends):
            if len(pair) == 2 and posts[-1] in pair:
                other = pair[0] + pair[1] - posts[-1]
                if other not in posts:
                    rows.append((posts + (other,), totals + (at,)))
                    found.append(rows[-1])
    return found


def lost_ways(table, errors):
    """All ways whose totals' errors, added with signs by turns, are off."""
    every = total_errors_of(table, errors)
    return {(posts, totals) for posts, totals in all_post_ways(table)
            if abs(sum(every[total] * (-1) ** at for at, total in enumerate(totals))) >= 1}


def has_held(table, errors):
    """Whether some blocks have all points of each piece within less than 1."""
    return is_good(table) and is_plain_inside(table, court(table), errors)


class Papers(unittest.TestCase):

    def test_first_kind_that_can_be_right(self):
        rng = random.Random(1)
        seen = {}
        for table in TABLES:
            for size in (0, 1, 1, 2):
                errors = tuple(random_fraction(rng, size, (1, 2, 3)) for _ in table.kinds)
                paper = held_paper(table, errors)
                self.assertIs(is_held_paper(table, errors, paper), True)
                if has_held(table, errors):
                    self.assertIsInstance(paper, HeldPaper)
                elif not is_good(table):
                    self.assertIs(is_knot(table, paper), True)
                else:
                    self.assertIsInstance(paper, LostPaper)
                    lost = lost_ways(table, errors)
                    self.assertIn((paper.posts, paper.totals), lost)
                    self.assertEqual(len(paper.totals), min(len(totals) for _, totals in lost))
                self.assertIs(isinstance(paper, HeldPaper), are_held(table, errors))
                self.assertIs(isinstance(paper, HeldPaper), least_lines(table, errors) is None)
                name = paper.__class__.__name__
                seen[name] = seen.get(name, 0) + 1
        self.assertEqual(sorted(seen), ["HeldPaper", "Knot", "LostPaper"])
        self.assertGreaterEqual(min(seen.values()), 20, seen)

    def test_held_exactly_if_there_is_a_right_one(self):
        rng = random.Random(2)
        seen = {True: 0, False: 0}
        for table in GOOD:
            blocks = some_blocks(rng, table)
            errors = tuple(random_fraction(rng, 1, (1, 2, 3)) for _ in table.kinds)
            points = plain_points(table, blocks, errors)
            for _ in range(4):
                least = tuple(told(min(own) - rng.choice((0, 0, Fraction(1, 6), Fraction(1, 4), -Fraction(1, 9))))
                              for own in points)
                right = all(exact(low) <= min(own) and max(own) < exact(low) + 1 for own, low in zip(points, least))
                self.assertIs(is_held_paper(table, errors, HeldPaper(blocks, least)), right)
                self.assertFalse(right and not are_held(table, errors))
                seen[right] += 1
        self.assertGreater(min(seen.values()), 100)

    def test_all_ways_are_papers(self):
        rng = random.Random(3)
        seen = {True: 0, False: 0}
        for table in TABLES[:120] + [RING, ring_table(4)]:
            errors = tuple(random_fraction(rng, 2, (1, 2, 3)) for _ in table.kinds)
            lost = lost_ways(table, errors)
            for posts, totals in all_post_ways(table)[:60]:
                right = (posts, totals) in lost
                self.assertIs(is_held_paper(table, errors, LostPaper(posts, totals)), right)
                seen[right] += 1
        self.assertGreater(min(seen.values()), 100)

    def test_knots_whatever_the_errors_are(self):
        for errors in (((0, 1),) * 3, ((5, 1), (1, 3), (0, 1))):
            self.assertIs(is_knot(RING, held_paper(RING, errors)), True)
            self.assertIs(is_held_paper(RING, errors, Knot("ring", (0, 1, 2), (0, 2, 1))), False)
            self.assertIs(is_held_paper(RING, errors, Knot("ring", (0, 1, 2), (0, 1, 2))), is_knot(
                RING, Knot("ring", (0, 1, 2), (0, 1, 2))))
        # A way may be right without blocks.
        self.assertIs(is_held_paper(RING, ((1, 2), (1, 2), (0, 1)), LostPaper((0, 1), (0,))), True)
        self.assertIs(is_held_paper(RING, ((1, 2), (1, 3), (0, 1)), LostPaper((0, 1), (0,))), False)

    def test_edges(self):
        one = Table(("cup",), ((0,),))
        blocks = court(one)
        for error, right in (((0, 1), True), ((999, 1000), True), ((-999, 1000), True), ((1, 1), False), ((-1, 1), False)):
            paper = HeldPaper(blocks, (min(error, (0, 1), key=exact),))
            self.assertIs(is_held_paper(one, (error,), paper), right)
            self.assertIs(is_held_paper(one, (error,), LostPaper((0, 1), (0,))), not right)
            self.assertIs(is_held_paper(one, (error,), LostPaper((1, 0), (0,))), not right)
            self.assertIs(is_held_paper(one, (error,), LostPaper((0,), ())), False)
        two = Table(("a", "b"), ((0,), (1,)))
        self.assertIs(is_held_paper(two, ((1, 2), (-1, 2)), LostPaper((0, 2, 1), (0, 1))), False)
        self.assertIs(is_held_paper(two, ((1, 2), (-1, 2)), HeldPaper(court(two), ((0, 1), (-1, 2)))), True)
        self.assertIs(is_held_paper(two, ((1, 2), (-1, 2)), HeldPaper(repainted(court(two), 1), ((0, 1), (0, 1)))), True)
        bare = Table(("a",), ((),))
        self.assertIs(is_held_paper(bare, ((99, 1),), HeldPaper(Blocks((), ()), ())), True)
        self.assertIsInstance(held_paper(bare, ((99, 1),)), HeldPaper)

    def test_examples(self):
        paper = held_paper(errors=ERRORS, table=TABLE)
        self.assertEqual(sorted(paper.totals), [0, 1, 2])
        self.assertIs(is_held_paper(value=paper, errors=ERRORS, table=TABLE), True)
        self.assertIs(is_held_paper(TABLE, ((0, 1),) * 4, paper), False)
        made = (HeldPaper(least=1, blocks=2), LostPaper(totals=3, posts=4))
        self.assertEqual((made[0].blocks, made[0].least, made[1].posts, made[1].totals), (2, 1, 4, 3))

    def test_very_long_errors(self):
        rng = random.Random(4)
        line = Table(NAMES, tuple((at, at + 1) for at in range(11)) + ((11,),))
        bottom = 10 ** 3999 + 7
        signed = [Fraction(rng.randint(0, bottom // 2), bottom) for _ in range(12)]
        errors = tuple(told(point * (-1) ** at) for at, point in enumerate(signed))
        paper = held_paper(line, errors)
        self.assertIsInstance(paper, HeldPaper)
        self.assertIs(is_held_paper(line, errors, paper), True)
        far = errors[:5] + (told(exact(errors[5]) - 2),) + errors[6:]
        self.assertIs(is_held_paper(line, far, paper), False)
        lost = held_paper(line, far)
        self.assertEqual(len(lost.totals), 1)
        self.assertIs(is_held_paper(line, far, lost), True)
        self.assertIs(is_held_paper(line, errors, lost), False)


class AnyValue(unittest.TestCase):

    def test_other_values(self):
        for table, errors in ((TABLE, ERRORS), (RING, ((0, 1),) * 3), (Table(("a",), ()), ((0, 1),))):
            for value in odd_values() + odd_objects(HeldPaper, 2) + odd_objects(LostPaper, 2) + odd_objects(Blocks, 2):
                self.assertIs(is_held_paper(table, errors, value), False)

    def test_spoilt_at_any_place(self):
        held = held_paper(TABLE, ((1, 2), (0, 1), (-1, 3), (1, 3)))
        blocks = held.blocks
        lost = held_paper(TABLE, ERRORS)
        for other in OTHERS:
            for value in swapped_objects(HeldPaper, (held.blocks, held.least), other):
                self.assertIs(is_held_paper(TABLE, ((1, 2), (0, 1), (-1, 3), (1, 3)), value), False)
            for own in swapped_objects(Blocks, (blocks.colours, blocks.pieces), other):
                value = HeldPaper(own, held.least)
                self.assertIs(is_held_paper(TABLE, ((1, 2), (0, 1), (-1, 3), (1, 3)), value), False)
            for value in swapped_objects(LostPaper, (lost.posts, lost.totals), other):
                self.assertIs(is_held_paper(TABLE, ERRORS, value), False)

    def test_nearly_right(self):
        errors = ((1, 2), (0, 1), (-1, 3), (1, 3))
        blocks = court(TABLE)
        low = held_paper(TABLE, errors).least
        for least in (low + ((0, 1),), (), [low[0]], (list(low[0]),), ((low[0][0] * 2, low[0][1] * 2),), ((-5, 1),), ((5, 1),),
                      ((low[0][0], -low[0][1]),), low[0]):
            self.assertIs(is_held_paper(TABLE, errors, HeldPaper(blocks, least)), False)
        self.assertIs(is_held_paper(TABLE, errors, HeldPaper(blocks, low)), True)
        for posts, totals in product(((0, 1, 2, 3), (3, 2, 1, 0), (0, 1, 2), (1, 2, 3), (0, 2, 1, 3), (0, 1, 1, 3)),
                                     ((0, 1, 2), (2, 1, 0), (0, 1), (1, 2), (0, 1, 3), (0, 0, 2))):
            right = (posts, totals) in lost_ways(TABLE, ERRORS)
            self.assertIs(is_held_paper(TABLE, ERRORS, LostPaper(posts, totals)), right)


if __name__ == "__main__":
    unittest.main()
