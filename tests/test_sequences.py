"""Promises [43] and [44]: told sequences."""

import random
import unittest
from fractions import Fraction
from itertools import product

from centsatonce.games import can_keep_told
from centsatonce.sequences import closures_back, is_kept, lost_line
from centsatonce.tables import Table, class_numbers
from tests.helpers import NAMES, is_good_table, plain_classes, plain_totals, random_tables, told

TABLES = random_tables(43, 200, most_kinds=5, most_totals=5, sizes=(0, 1, 2, 2, 3, 4))
NESTED = Table(("x", "y", "z"), ((0, 1, 2), (0, 2), (1, 2)))


def plain_closures(table, sequence):
    """The lots that are due, by the words of the promise."""
    classes = plain_classes(table)
    own = [next((at for at, kinds in enumerate(classes) if kind in kinds), None) for kind in sequence]

    def cut(one, place):
        return tuple(entry if number in own[:place] else 0 for number, entry in enumerate(one))

    base = [tuple(int(number in total) for number in range(len(classes))) for total in plain_totals(table)]
    base += [tuple(-entry for entry in one) for one in base]
    lots = [{cut(one, len(own)) for one in base}]
    for at in range(len(own) - 1, -1, -1):
        behind = [one for one in lots[-1] if any(one)]
        found = {cut(one, at) for one in behind}
        if own[at] is not None:
            ones = [one for one in behind if one[own[at]] == 1]
            found |= {cut([a - b for a, b in zip(one, other)], at) for one in ones for other in ones if one != other}
        lots.append(found)
    lots = [tuple(sorted(one for one in lot if any(one))) for lot in reversed(lots)]
    if any(abs(entry) > 1 for lot in lots for one in lot for entry in one):
        return None
    return tuple(lots)


def random_sequence(rng, table, most):
    return tuple(rng.randrange(len(table.kinds)) for _ in range(rng.randint(0, most)))


class Back(unittest.TestCase):

    def test_closures(self):
        rng = random.Random(1)
        seen = {True: 0, False: 0}
        for table in TABLES:
            for _ in range(20):
                sequence = random_sequence(rng, table, 8)
                right = plain_closures(table, sequence)
                self.assertEqual(closures_back(table, sequence), right)
                self.assertIs(is_kept(table, sequence), right is not None)
                seen[right is not None] += 1
        self.assertGreater(min(seen.values()), 50)

    def test_few_due(self):
        rng = random.Random(2)
        for table in TABLES:
            sequence = random_sequence(rng, table, 12)
            closures = closures_back(table, sequence)
            for place, lot in enumerate(closures or ()):
                many = len({class_numbers(table)[kind] for kind in sequence[:place]} - {None})
                self.assertLessEqual(len(lot), many * (many + 1))

    def test_opposites_are_due(self):
        rng = random.Random(3)
        for table in TABLES:
            for lot in closures_back(table, random_sequence(rng, table, 10)) or ():
                self.assertEqual({tuple(-entry for entry in one) for one in lot}, set(lot))

    def test_lost_line(self):
        rng = random.Random(4)
        lost = set()
        for table in TABLES:
            for _ in range(6):
                sequence = random_sequence(rng, table, 9)
                bad = [at for at in range(len(sequence)) if plain_closures(table, sequence[at:]) is None]
                self.assertEqual(lost_line(table, sequence), bad[-1] if bad else None)
                lost.add(bad[-1] if bad else None)
        self.assertLessEqual({None, 0, 1, 2, 3}, lost)

    def test_examples(self):
        self.assertEqual(closures_back(Table(("a", "b"), ((0,), (0, 1))), (0, 1)),
                         ((), ((-1, 0), (1, 0)), ((-1, -1), (-1, 0), (1, 0), (1, 1))))
        self.assertEqual((is_kept(NESTED, (1, 0, 2)), lost_line(NESTED, (1, 0, 2)), is_kept(NESTED, (0, 2, 1))),
                         (False, 0, True))
        self.assertIsNone(closures_back(sequence=(1, 0, 2), table=NESTED))
        self.assertIs(is_kept(sequence=(0, 2, 1), table=NESTED), True)
        self.assertEqual(lost_line(sequence=(0, 1, 0, 2), table=NESTED), 1)

    def test_empty_ones(self):
        for table in TABLES[:20]:
            self.assertEqual(closures_back(table, ()), ((),))
            self.assertIs(is_kept(table, ()), True)
            self.assertIsNone(lost_line(table, ()))
        free = Table(("a", "b"), ((0,),))
        self.assertEqual(closures_back(free, (1, 1)), ((), (), ()))
        self.assertEqual(closures_back(free, (1, 0, 1)), ((), (), ((-1,), (1,)), ((-1,), (1,))))
        self.assertEqual(closures_back(Table(("a",), ((),)), (0, 0)), ((), (), ()))

    def test_cut_where_the_class_is_met_first(self):
        table = Table(("a", "b"), ((0,), (0, 1)))
        self.assertEqual(closures_back(table, (1, 0)),
                         ((), ((0, -1), (0, 1)), ((-1, -1), (-1, 0), (1, 0), (1, 1))))


class FourHundred(unittest.TestCase):

    def test_good_tables(self):
        totals = tuple((at, at + 1) for at in range(11)) + ((11,),)
        table = Table(NAMES, totals)
        rng = random.Random(5)
        sequence = tuple(rng.randrange(12) for _ in range(400))
        closures = closures_back(table, sequence)
        self.assertEqual(len(closures), 401)
        self.assertEqual(max(map(len, closures)), 156)
        self.assertIsNone(lost_line(table, sequence))
        self.assertEqual(closures, plain_closures(table, sequence))

    def test_others(self):
        ring = Table(("a", "b", "c"), ((0, 1), (1, 2), (0, 2)))
        for sequence, line in (((0, 1, 2) * 133 + (0,), 397), ((0, 1, 2) + (0, 1) * 198, 2),
                               ((2, 0) * 100 + (1,) * 200, 198), ((0, 1) * 200, None)):
            self.assertEqual(lost_line(ring, sequence), line)
            self.assertIs(is_kept(ring, sequence), line is None)
            if line is not None:
                self.assertIsNotNone(plain_closures(ring, sequence[line + 1:]))
                self.assertIsNone(plain_closures(ring, sequence[line:]))


class Kept(unittest.TestCase):

    def test_kept_whatever_the_amounts_are(self):
        rng = random.Random(6)
        seen = {True: 0, False: 0}
        sets = (((1, 2),), ((1, 3), (2, 3)), ((1, 4), (1, 2), (3, 4)), ((1, 5), (2, 5), (1, 2)), ((5, 7), (1, 9)))
        for table in random_tables(44, 200, most_kinds=4, most_totals=5, sizes=(2, 2, 3), least_kinds=3):
            zeros = ((0, 1),) * len(table.kinds)
            for _ in range(3):
                sequence = random_sequence(rng, table, 5)
                kept = is_kept(table, sequence)
                seen[kept] += 1
                if kept:
                    for fractions in sets:
                        self.assertIs(can_keep_told(table, zeros, sequence, fractions), True)
        self.assertGreater(min(seen.values()), 8)

    def test_not_kept_for_some_amounts(self):
        lost = 0
        fractions = tuple(told(Fraction(top, 8)) for top in range(8))
        for table in random_tables(45, 100, most_kinds=3, most_totals=4, sizes=(1, 2, 2, 3), least_kinds=3):
            zeros = ((0, 1),) * len(table.kinds)
            for sequence in product(range(3), repeat=4):
                if not is_kept(table, sequence):
                    lost += 1
                    self.assertIs(can_keep_told(table, zeros, sequence, fractions), False, (table.totals, sequence))
        self.assertGreater(lost, 100)

    def test_lines_alone(self):
        rng = random.Random(7)
        for table in TABLES[:80]:
            sequence = random_sequence(rng, table, 7)
            if is_kept(table, sequence):
                for at in range(len(sequence)):
                    self.assertTrue(is_kept(table, sequence[:at]))
                    self.assertTrue(is_kept(table, sequence[at:]))
                    self.assertTrue(is_kept(table, sequence[:at] + sequence[at + 1:]))

    def test_good_tables_keep_all(self):
        rng = random.Random(8)
        for table in TABLES:
            if is_good_table(table):
                self.assertTrue(is_kept(table, random_sequence(rng, table, 12)))


if __name__ == "__main__":
    unittest.main()
