"""Promise [56], what it says of trees and papers."""

import random
import time
import unittest
from itertools import product

from centsatonce.narrow import narrowest
from centsatonce.tables import Table
from centsatonce.widthpapers import barring_tree, is_barring_tree, is_narrowest_paper, is_width_paper, narrowest_paper
from centsatonce.widthpapers import width_paper
from tests.helpers import NAMES, OTHERS, odd_values, plain_classes, plain_totals, random_tables, with_swapped
from tests.test_narrow import every_widths

TABLES = random_tables(156, 150, most_kinds=6, most_totals=6)
NESTED = Table(("cup", "jam", "tea"), ((0,), (0, 1), (0, 1, 2)))
TREE = ("class", 0, ("class", 1, ("over", 2), ("class", 2, ("over", 2), ("over", 2))),
        ("class", 1, ("class", 2, ("over", 2), ("over", 2)), ("over", 2)))


def is_plain_tree(table, most, tree, known):
    """Whether a well formed tree is right, by the words of the promise."""
    if tree[0] == "over":
        colours = [known[number] for number in plain_totals(table)[tree[1]] if number in known]
        return max(colours.count(1), colours.count(-1)) > most[tree[1]]
    if tree[1] in known or tree[1] >= len(plain_classes(table)):
        return False
    return all(is_plain_tree(table, most, tree[2 + at], {**known, tree[1]: colour}) for at, colour in enumerate((1, -1)))


def right_colours(table, most):
    return [colours for colours, widths in every_widths(table).items()
            if all(width <= number for width, number in zip(widths, most))]


def random_tree(rng, table, depth):
    if depth == 0 or rng.random() < 0.2:
        return ("over", rng.randrange(len(table.totals)))
    return ("class", rng.randrange(len(plain_classes(table))), random_tree(rng, table, depth - 1),
            random_tree(rng, table, depth - 1))


class Trees(unittest.TestCase):

    def test_one_of_both_forms(self):
        rng = random.Random(1)
        seen = {True: 0, False: 0}
        for table in TABLES:
            for _ in range(5):
                most = tuple(rng.randint(0, 3) for _ in table.totals)
                right = right_colours(table, most)
                tree = barring_tree(table, most)
                self.assertIs(tree is None, bool(right))
                self.assertIs(is_barring_tree(table, most, tree), not right)
                paper = width_paper(table, most)
                self.assertIs(is_width_paper(table, most, paper), True)
                if right:
                    self.assertEqual(paper[0], "colours")
                    self.assertIn(paper[1], right)
                else:
                    self.assertEqual(paper[0], "tree")
                    self.assertTrue(is_plain_tree(table, most, paper[1], {}))
                    self.assertTrue(is_plain_tree(table, most, tree, {}))
                for colours in product((1, -1), repeat=len(plain_classes(table))):
                    self.assertIs(is_width_paper(table, most, ("colours", colours)), colours in right)
                seen[bool(right)] += 1
        self.assertGreater(min(seen.values()), 100)

    def test_drawn_trees(self):
        rng = random.Random(2)
        seen = {True: 0, False: 0}
        for table in [table for table in TABLES if plain_classes(table)]:
            for _ in range(30):
                most = tuple(rng.choice((0, 0, 0, 1)) for _ in table.totals)
                tree = random_tree(rng, table, 3)
                right = is_plain_tree(table, most, tree, {})
                self.assertIs(is_barring_tree(table, most, tree), right)
                self.assertIs(is_width_paper(table, most, ("tree", tree)), right)
                self.assertFalse(right and right_colours(table, most))
                seen[right] += 1
        self.assertGreater(min(seen.values()), 50)

    def test_examples(self):
        self.assertIs(is_barring_tree(NESTED, (1, 1, 1), TREE), True)
        self.assertIs(is_barring_tree(value=TREE, most=(1, 1, 2), table=NESTED), False)
        self.assertIs(is_width_paper(value=("tree", TREE), most=(1, 1, 1), table=NESTED), True)
        self.assertIs(is_width_paper(NESTED, (1, 1, 2), ("colours", (1, -1, 1))), True)
        self.assertIs(is_width_paper(NESTED, (1, 1, 2), ("colours", (1, 1, -1))), False)
        self.assertIsNone(barring_tree(most=(1, 1, 2), table=NESTED))
        self.assertEqual(width_paper(most=(2, 2, 2), table=NESTED)[0], "colours")
        bare = Table(("cup",), ())
        self.assertEqual(width_paper(bare, ()), ("colours", ()))
        self.assertIs(is_width_paper(bare, (), ("colours", ())), True)
        self.assertIs(is_barring_tree(bare, (), ("over", 0)), False)
        # An empty total is over no number.
        self.assertIs(is_barring_tree(Table(("cup",), ((),)), (0,), ("over", 0)), False)

    def test_twelve_classes(self):
        rng = random.Random(3)
        began = time.time()
        wide = Table(NAMES, tuple((kind,) for kind in range(11)) + (tuple(range(12)),))
        most = (12,) * 11 + (5,)
        tree = barring_tree(wide, most)
        self.assertIs(is_barring_tree(wide, most, tree), True)
        self.assertIs(is_barring_tree(wide, (12,) * 11 + (6,), tree), False)
        for _ in range(3):
            table = Table(NAMES, tuple(tuple(sorted(rng.sample(range(12), 6))) for _ in range(12)))
            paper = narrowest_paper(table)
            self.assertEqual(paper[0], min(map(max, every_widths(table).values())))
            self.assertIs(is_narrowest_paper(table, paper), True)
        self.assertLess(time.time() - began, 30)


class Narrowest(unittest.TestCase):

    def test_random_tables(self):
        seen = set()
        for table in TABLES:
            paper = narrowest_paper(table)
            self.assertIs(is_narrowest_paper(table, paper), True)
            number, colours, tree = paper
            self.assertEqual(number, narrowest(table))
            self.assertEqual(max(every_widths(table)[colours], default=0), number)
            if number:
                self.assertTrue(is_plain_tree(table, (number - 1,) * len(table.totals), tree, {}))
            else:
                self.assertIsNone(tree)
            for other in range(4):
                self.assertIs(is_narrowest_paper(table, (other, colours, tree)), other == number)
            seen.add(number)
        self.assertLessEqual({0, 1, 2, 3}, seen)

    def test_none_for_nought(self):
        for table in (Table(("cup",), ()), Table(("cup", "tea"), ((), ()))):
            self.assertEqual(narrowest_paper(table=table), (0, (), None))
            self.assertIs(is_narrowest_paper(value=(0, (), None), table=table), True)
            for value in ((0, (), ("over", 0)), (False, (), None), (0, None, None), (1, (), None), (0, (1,), None),
                          (-1, (), None), (0, (), ()), [0, (), None], (0, ())):
                self.assertIs(is_narrowest_paper(table, value), False)

    def test_spoilt(self):
        paper = narrowest_paper(NESTED)
        self.assertEqual(paper[0], 2)
        for value in ((2, (1, 1, 1), paper[2]), (2, (1, -1), paper[2]), (1, paper[1], paper[2]), (3, paper[1], paper[2]),
                      (2, paper[1], None), (2, paper[1], ("over", 2)), (10 ** 30, paper[1], paper[2]),
                      (2, list(paper[1]), paper[2]), paper + (0,), paper[:2]):
            self.assertIs(is_narrowest_paper(NESTED, value), False)
        self.assertIs(is_narrowest_paper(NESTED, (2, paper[1], TREE)), True)


class AnyValue(unittest.TestCase):

    def check(self, value):
        self.assertIs(is_barring_tree(NESTED, (1, 1, 1), value), False)
        self.assertIs(is_width_paper(NESTED, (1, 1, 1), value), False)
        self.assertIs(is_width_paper(NESTED, (9, 9, 9), value), False)
        self.assertIs(is_narrowest_paper(NESTED, value), False)

    def test_other_values(self):
        for value in odd_values():
            self.check(value)
            self.check(("tree", value))
            self.check(("colours", value))
            self.check(("over", value))
            self.check((2, (1, -1, 1), value))
            self.check((value, (1, -1, 1), TREE))
            self.check(("class", value, TREE, TREE))
            self.check((value, TREE))

    def test_spoilt_at_any_place(self):
        self.assertIs(is_barring_tree(NESTED, (1, 1, 1), TREE), True)
        for other in OTHERS + ("over", "class", "tree", 3, 1, 0):
            for value in with_swapped(TREE, other):
                right = is_well_formed(value) and is_plain_tree(NESTED, (1, 1, 1), value, {})
                self.assertIs(is_barring_tree(NESTED, (1, 1, 1), value), right)
                self.assertIs(is_width_paper(NESTED, (1, 1, 1), ("tree", value)), right)
                self.assertIs(is_narrowest_paper(NESTED, (2, (1, -1, 1), value)), right)
            for value in with_swapped(("colours", (1, -1, 1)), other):
                self.assertIs(is_width_paper(NESTED, (9, 9, 9), value), are_three_colours(value))

    def test_ways_that_meet_again(self):
        # One tree at many places: no way tells a class twice, so none is longer than the classes are many.
        deep = ("over", 2)
        for _ in range(200):
            deep = ("class", 0, deep, deep)
        self.assertIs(is_barring_tree(NESTED, (1, 1, 1), deep), False)
        wide = Table(NAMES, tuple((kind,) for kind in range(11)) + (tuple(range(12)),))
        deep = ("over", 11)
        for number in range(12):
            deep = ("class", number, deep, deep)
        self.assertIs(is_barring_tree(wide, (12,) * 11 + (5,), deep), True)


def are_three_colours(value):
    """Whether a value is the word and three colours."""
    if type(value) is not tuple or len(value) != 2 or type(value[0]) is not str or value[0] != "colours":
        return False
    own = value[1]
    return type(own) is tuple and len(own) == 3 and all(type(colour) is int and abs(colour) == 1 for colour in own)


def is_well_formed(tree):
    """Whether a value is a tree of words and numbers of things that are there."""
    if type(tree) is not tuple or not tree or type(tree[0]) is not str:
        return False
    if tree[0] == "over":
        return len(tree) == 2 and type(tree[1]) is int and 0 <= tree[1] < 3
    if tree[0] != "class" or len(tree) != 4 or type(tree[1]) is not int or not 0 <= tree[1] < 3:
        return False
    return is_well_formed(tree[2]) and is_well_formed(tree[3])


if __name__ == "__main__":
    unittest.main()
