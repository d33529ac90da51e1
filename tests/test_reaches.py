"""Promise [49]: posts and how far they are apart."""

import unittest
from itertools import permutations

from centsatonce.reaches import distance, farthest, ground_of, is_post_way, lines_that_tell, post_way
from centsatonce.tables import Table
from tests.helpers import NAMES, Rude, Yes, deep_tuple, odd_values, plain_classes, plain_totals, random_tables
from tests.helpers import with_swapped

TABLES = random_tables(49, 120, most_kinds=5, most_totals=6, sizes=(0, 1, 1, 2, 2, 2, 3))
CHAIN = Table(("bun", "cup", "jam", "tea"), ((0, 1), (1, 2), (2, 3), (3,)))


def pairs_of(table):
    """For each total the pair of posts that it ties, as a set, or None."""
    ground = len(plain_classes(table))
    found = []
    for total in plain_totals(table):
        found.append({1: {ground, *total}, 2: set(total)}.get(len(total)))
    return found


def is_plain_way(table, posts, totals):
    """Whether plain numbers are the posts and the totals of a way."""
    ground, pairs = len(plain_classes(table)), pairs_of(table)
    if not posts or len(set(posts)) != len(posts) or len(totals) != len(posts) - 1:
        return False
    if ground in posts[1:-1]:
        return False
    return all(pairs[total] == {posts[at], posts[at + 1]} for at, total in enumerate(totals))


def plain_distances(table):
    """A dict from pairs of posts to their distance, by trying all rows of posts."""
    posts = range(len(plain_classes(table)) + 1)
    pairs, found = pairs_of(table), {}
    for many in range(len(posts)):
        for row in permutations(posts, many + 1):
            if all({row[at], row[at + 1]} in pairs for at in range(many)) and len(posts) - 1 not in row[1:-1]:
                found.setdefault((row[0], row[-1]), many)
    return found


class Ways(unittest.TestCase):

    def test_shortest(self):
        for table in TABLES:
            ground = len(plain_classes(table))
            self.assertEqual(ground_of(table), ground)
            distances = plain_distances(table)
            for one in range(ground + 1):
                for other in range(ground + 1):
                    right = distances.get((one, other))
                    self.assertEqual(distance(table, one, other), right)
                    way = post_way(table, one, other)
                    if right is None:
                        self.assertIsNone(way)
                        continue
                    posts, totals = way
                    self.assertEqual((posts[0], posts[-1], len(totals)), (one, other, right))
                    self.assertTrue(is_plain_way(table, posts, totals))
                    self.assertIs(is_post_way(table, posts, totals), True)
            greatest = max(distances.values())
            self.assertEqual(farthest(table), greatest)
            self.assertEqual(lines_that_tell(table), next(k for k in range(9) if 2 ** k >= greatest))

    def test_not_through_the_ground(self):
        table = Table(("a", "b"), ((0,), (1,)))
        self.assertIsNone(post_way(table, 0, 1))
        self.assertIsNone(distance(table, 0, 1))
        self.assertEqual(post_way(table, 0, 2), ((0, 2), (0,)))
        self.assertEqual(post_way(table, 2, 1), ((2, 1), (1,)))
        self.assertEqual(farthest(table), 1)
        self.assertIs(is_post_way(table, (0, 2, 1), (0, 1)), False)

    def test_no_class(self):
        table = Table(("a",), ((),))
        self.assertEqual((ground_of(table), post_way(table, 0, 0), distance(table, 0, 0)), (0, ((0,), ()), 0))
        self.assertEqual((farthest(table), lines_that_tell(table)), (0, 0))
        self.assertIs(is_post_way(table, (0,), ()), True)

    def test_long_chains(self):
        for many in range(1, 13):
            totals = [(kind, kind + 1) for kind in range(many - 1)] + [(many - 1,)]
            table = Table(NAMES[:many], tuple(totals))
            self.assertEqual(distance(table, 0, many), many)
            self.assertEqual(farthest(table), many)
            right = {1: 0, 2: 1, 3: 2, 4: 2, 5: 3, 6: 3, 7: 3, 8: 3}.get(many, 4)
            self.assertEqual(lines_that_tell(table), right)
            self.assertEqual(post_way(table, 0, many), (tuple(range(many + 1)), tuple(range(many))))

    def test_tables_without_blocks(self):
        ring = Table(("a", "b", "c"), ((0, 1), (1, 2), (0, 2)))
        self.assertEqual((distance(ring, 0, 2), post_way(ring, 0, 3), farthest(ring)), (1, None, 1))
        wide = Table(("a", "b", "c"), ((0, 1, 2), (0,), (1,)))
        self.assertEqual((distance(wide, 0, 3), distance(wide, 2, 3), distance(wide, 2, 2)), (1, None, 0))

    def test_example(self):
        self.assertEqual(post_way(table=CHAIN, one=0, other=4), ((0, 1, 2, 3, 4), (0, 1, 2, 3)))
        self.assertEqual(lines_that_tell(table=CHAIN), 2)
        self.assertEqual((ground_of(table=CHAIN), distance(other=0, one=3, table=CHAIN), farthest(table=CHAIN)), (4, 3, 4))


class AnyValues(unittest.TestCase):

    def test_all_short_rows(self):
        for table in TABLES[:25]:
            posts, many = range(len(plain_classes(table)) + 2), range(len(table.totals))
            self.assertIs(is_post_way(table, (), ()), False)
            for one in posts:
                self.assertIs(is_post_way(table, (one,), ()), one < len(posts) - 1)
                for other in posts:
                    for total in many:
                        right = one != other and pairs_of(table)[total] == {one, other}
                        self.assertIs(is_post_way(table, (one, other), (total,)), right)
                        self.assertIs(is_post_way(table, (one, other), ()), False)

    def test_rows_of_three(self):
        for table in TABLES[:25]:
            posts = range(len(plain_classes(table)) + 1)
            for row in permutations(posts, min(3, len(posts))):
                for first in range(len(table.totals)):
                    for second in range(len(table.totals)):
                        if len(row) == 3:
                            right = is_plain_way(table, row, (first, second))
                            self.assertIs(is_post_way(table, row, (first, second)), right)

    def test_twice_the_same_post(self):
        self.assertIs(is_post_way(CHAIN, (0, 1, 0), (0, 0)), False)
        self.assertIs(is_post_way(CHAIN, (0, 0), (0,)), False)
        self.assertIs(is_post_way(CHAIN, (4, 3, 4), (3, 3)), False)

    def test_other_values(self):
        posts, totals = (0, 1, 2, 3, 4), (0, 1, 2, 3)
        self.assertIs(is_post_way(CHAIN, posts, totals), True)
        self.assertIs(is_post_way(totals=totals[::-1], posts=posts[::-1], table=CHAIN), True)
        for other in (True, False, None, 1.0, "1", [], Rude(), Yes(), -1, 4, 12, 10 ** 30, (0,)):
            for swapped in with_swapped(posts, other):
                self.assertIs(is_post_way(CHAIN, swapped, totals), False)
            for swapped in with_swapped(totals, other):
                self.assertIs(is_post_way(CHAIN, posts, swapped), False)
        for value in odd_values() + [deep_tuple(3000)]:
            self.assertIs(is_post_way(CHAIN, value, totals), False)
            self.assertIs(is_post_way(CHAIN, posts, value), False)
            self.assertIs(is_post_way(CHAIN, value, value), False)
        self.assertIs(is_post_way(CHAIN, (True, 2), (1,)), False)
        self.assertIs(is_post_way(CHAIN, (0, 1), (False,)), False)
        self.assertIs(is_post_way(CHAIN, (1, 2), (1,)), True)


if __name__ == "__main__":
    unittest.main()
