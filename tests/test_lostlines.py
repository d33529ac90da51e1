"""Promise [48]: lines of told sequences."""

import random
import unittest
from itertools import combinations, permutations, product

from centsatonce.court import Blocks, court
from centsatonce.lostlines import is_lost_core, kept_orders, keeps_all, lost_core, places_for, thinned
from centsatonce.sequences import is_kept
from centsatonce.tables import Table
from tests.helpers import NAMES, OTHERS, odd_values, plain_classes, raised, random_tables, with_swapped
from tests.test_sequences import plain_closures, random_sequence
from tests.test_spoils import ring_table
from tests.test_toldpapers import classes_along

TABLES = random_tables(148, 120, most_kinds=5, most_totals=5, sizes=(0, 1, 2, 2, 3, 4), least_kinds=2)
TABLES += random_tables(149, 80, most_kinds=4, most_totals=5, sizes=(2, 2, 3), least_kinds=3)
TABLE = Table(("x", "y", "z"), ((0, 1, 2), (0, 2), (1, 2)))
SIZE = ("Refused", {"word": "size"})


def is_plain_kept(table, sequence):
    return plain_closures(table, sequence) is not None


def picked(sequence, lines):
    return tuple(sequence[at] for at in lines)


def all_cores(table, sequence):
    """All least lots of lines that cannot be kept alone, by trying all lots of lines."""
    kept = {}
    for many in range(len(sequence) + 1):
        for lines in combinations(range(len(sequence)), many):
            kept[lines] = is_plain_kept(table, picked(sequence, lines))
    return [lines for lines, fit in kept.items()
            if not fit and all(kept[lines[:at] + lines[at + 1:]] for at in range(len(lines)))]


class Thinned(unittest.TestCase):

    def test_random_sequences(self):
        rng = random.Random(1)
        seen = set()
        for table in TABLES:
            for _ in range(6):
                sequence = random_sequence(rng, table, 10)
                own = classes_along(table, sequence)
                with_class = [at for at, number in enumerate(own) if number is not None]
                right = tuple(at for place, at in enumerate(with_class)
                              if place == 0 or own[at] != own[with_class[place - 1]])
                self.assertEqual(thinned(table, sequence), right)
                kept = is_plain_kept(table, sequence)
                self.assertIs(is_plain_kept(table, picked(sequence, right)), kept)
                seen.add((kept, len(right) < len(sequence)))
        self.assertEqual(len(seen), 4)

    def test_examples(self):
        free = Table(("a", "b", "c"), ((0,), (0, 1)))
        self.assertEqual(thinned(sequence=(2, 0, 2, 0, 1, 1, 2, 0), table=free), (1, 4, 7))
        self.assertEqual(thinned(free, ()), ())
        self.assertEqual(thinned(free, (2, 2)), ())
        # Kinds of one class count as one.
        self.assertEqual(thinned(Table(("a", "b"), ((0, 1),)), (0, 1, 0)), (0,))


class Cores(unittest.TestCase):

    def test_all_lots_of_lines(self):
        rng = random.Random(2)
        seen = {True: 0, False: 0}
        for table in TABLES:
            for _ in range(3):
                sequence = random_sequence(rng, table, 7)
                cores = all_cores(table, sequence)
                core = lost_core(table, sequence)
                if not cores:
                    self.assertIsNone(core)
                else:
                    self.assertIn(core, cores)
                for many in range(len(sequence) + 1):
                    for lines in combinations(range(len(sequence)), many):
                        self.assertIs(is_lost_core(table, sequence, lines), lines in cores)
                seen[bool(cores)] += 1
        self.assertGreater(min(seen.values()), 30)

    def test_examples(self):
        self.assertEqual(lost_core(sequence=(1, 0, 2), table=TABLE), (0, 1, 2))
        self.assertIs(is_lost_core(value=(0, 1, 2), sequence=(1, 0, 2), table=TABLE), True)
        self.assertIsNone(lost_core(TABLE, (0, 2, 1)))
        self.assertIs(is_lost_core(TABLE, (0, 2, 1), (0, 1, 2)), False)
        self.assertIs(is_lost_core(TABLE, (0, 1, 0, 2), (0, 1, 2, 3)), False)
        self.assertIs(is_lost_core(TABLE, (0, 1, 0, 2), (1, 2, 3)), True)
        self.assertIsNone(lost_core(TABLE, ()))
        self.assertIs(is_lost_core(TABLE, (), ()), False)

    def test_long_sequences(self):
        rng = random.Random(3)
        for table, sequence in ((TABLE, (0, 2, 1) * 133 + (0,)), (ring_table(11), tuple(range(11)) * 36),
                                (ring_table(3), (0, 1) * 199 + (2, 0)),
                                (ring_table(11), tuple(rng.randrange(11) for _ in range(400)))):
            core = lost_core(table, sequence)
            self.assertIs(is_lost_core(table, sequence, core), True)
            self.assertFalse(is_plain_kept(table, picked(sequence, core)))
            self.assertTrue(all(is_plain_kept(table, picked(sequence, core[:at] + core[at + 1:])) for at in range(len(core))))
            self.assertIs(is_lost_core(table, sequence, tuple(range(400))), False)
        line = Table(NAMES, tuple((at, at + 1) for at in range(11)) + ((11,),))
        sequence = tuple(rng.randrange(12) for _ in range(400))
        self.assertIsNone(lost_core(line, sequence))
        self.assertIs(is_lost_core(line, sequence, tuple(range(400))), False)

    def test_other_values(self):
        sequence = (0, 1, 0, 0, 2)
        right = lost_core(TABLE, sequence)
        for other in OTHERS:
            for value in with_swapped(right, other):
                self.assertIs(is_lost_core(TABLE, sequence, value), False)
        for value in odd_values():
            self.assertIs(is_lost_core(TABLE, sequence, value), False)
        for value in ((1, 2, 5), (2, 1, 4), (1, 1, 2, 4), (-1, 2, 4), (0, 1, 2, 4), (True, 2, 4), [1, 2, 4]):
            self.assertIs(is_lost_core(TABLE, sequence, value), False)
        self.assertIs(is_lost_core(TABLE, sequence, (1, 2, 4)), True)


class Others(unittest.TestCase):

    def test_places(self):
        rng = random.Random(4)
        many = set()
        for table in TABLES:
            for _ in range(4):
                sequence = random_sequence(rng, table, 6)
                kind = rng.randrange(len(table.kinds))
                right = tuple(place for place in range(len(sequence) + 1)
                              if is_plain_kept(table, sequence[:place] + (kind,) + sequence[place:]))
                self.assertEqual(places_for(table, sequence, kind), right)
                many.add((len(right) > 0, len(right) == len(sequence) + 1))
        self.assertEqual(many, {(True, True), (True, False), (False, False)})

    def test_orders(self):
        rng = random.Random(5)
        seen = set()
        for table in TABLES:
            sequence = random_sequence(rng, table, 5)
            orders = sorted(set(permutations(sequence)))
            right = tuple(order for order in orders if is_plain_kept(table, order))
            self.assertEqual(kept_orders(table, sequence), right)
            seen.add((len(right) > 0, len(right) == len(orders)))
        self.assertEqual(seen, {(True, True), (True, False), (False, False)})

    def test_examples(self):
        self.assertEqual(places_for(kind=1, sequence=(0, 2), table=TABLE), tuple(
            place for place in range(3) if is_kept(TABLE, ((1, 0, 2), (0, 1, 2), (0, 2, 1))[place])))
        self.assertEqual(kept_orders(sequence=(1, 0, 2), table=TABLE), tuple(
            order for order in sorted(permutations((0, 1, 2))) if is_kept(TABLE, order)))
        self.assertEqual(kept_orders(TABLE, (0, 0)), ((0, 0),))
        self.assertEqual(kept_orders(TABLE, ()), ((),))
        self.assertEqual(places_for(TABLE, (), 0), (0,))

    def test_sizes(self):
        for many, expected in ((40, None), (41, SIZE), (400, SIZE)):
            for sequence in ((0,) * many, (0, 2) * (many // 2) + (0,) * (many % 2)):
                self.assertEqual(raised(places_for, TABLE, sequence, 1), expected)
        self.assertEqual(places_for(TABLE, (0,) * 40, 0), tuple(range(41)))
        for many, expected in ((6, None), (7, SIZE), (400, SIZE)):
            self.assertEqual(raised(kept_orders, TABLE, (0,) * many), expected)
        self.assertEqual(len(kept_orders(ring_table(6), (0, 1, 2, 3, 4, 5))), 720)
        self.assertEqual(kept_orders(ring_table(3), (0, 1, 0, 1, 0, 1)),
                         tuple(sorted(set(permutations((0, 1, 0, 1, 0, 1))))))

    def test_keeps_all(self):
        seen = set()
        for table in TABLES + [ring_table(3), ring_table(4)]:
            good = isinstance(court(table), Blocks)
            self.assertIs(keeps_all(table), good)
            if len(plain_classes(table)) <= 3:
                kinds = [own[0] for own in plain_classes(table)]
                every = all(is_plain_kept(table, sequence) for many in range(6) for sequence in product(kinds, repeat=many))
                self.assertIs(every, good)
            seen.add(good)
        self.assertEqual(seen, {True, False})
        self.assertIs(keeps_all(table=TABLE), False)


if __name__ == "__main__":
    unittest.main()
