"""Promise [10]: pieces."""

import random
import unittest

from centsatonce.games import can_keep, kept_days
from centsatonce.pieces import piece_kinds, piece_table, piece_totals, pieces_of
from centsatonce.tables import Table
from tests.helpers import errors_by_total, kind_errors, plain_classes, plain_totals, random_lines, random_tables, rounded

TABLES = random_tables(10, 150, most_kinds=8, sizes=(0, 1, 1, 2, 2, 3))
FIVE = Table(("bun", "cup", "jam", "pie", "tea"), ((0, 2, 4), (), (2, 4), (3,), (0, 2, 4)))


def plain_pieces(table):
    """The pieces, by joining lots of classes as long as a total joins two."""
    pieces = [{number} for number in range(len(plain_classes(table)))]
    for total in plain_totals(table):
        joined = [piece for piece in pieces if piece & set(total)]
        if joined:
            pieces = [piece for piece in pieces if not piece & set(total)] + [set().union(*joined)]
    return sorted(tuple(sorted(piece)) for piece in pieces)


class Pieces(unittest.TestCase):

    def test_pieces(self):
        for table in TABLES:
            self.assertEqual(pieces_of(table), tuple(plain_pieces(table)))

    def test_totals_and_kinds(self):
        for table in TABLES:
            classes, totals = plain_classes(table), plain_totals(table)
            for piece in pieces_of(table):
                right = tuple(at for at, total in enumerate(totals) if set(total) & set(piece))
                self.assertEqual(piece_totals(table, piece), right)
                kinds = tuple(sorted(kind for number in piece for kind in classes[number]))
                self.assertEqual(piece_kinds(table, piece), kinds)

    def test_table(self):
        for table in TABLES:
            for piece in pieces_of(table):
                kinds, own = piece_kinds(table, piece), piece_table(table, piece)
                self.assertEqual(own.kinds, tuple(table.kinds[kind] for kind in kinds))
                totals = [table.totals[at] for at in piece_totals(table, piece)]
                self.assertEqual([tuple(kinds[kind] for kind in total) for total in own.totals], totals)
                self.assertEqual(pieces_of(own), (tuple(range(len(piece))),))

    def test_chain_and_ring(self):
        chain = Table(("a", "b", "c", "d", "e"), ((3, 4), (0, 1), (2, 3), (1, 2)))
        self.assertEqual(pieces_of(chain), ((0, 1, 2, 3, 4),))
        apart = Table(("a", "b", "c", "d", "e"), ((3, 4), (0, 1), (1, 2), (4,)))
        self.assertEqual(pieces_of(apart), ((0, 1, 2), (3, 4)))
        mixed = Table(("a", "b", "c", "d"), ((0, 3), (1, 2), (1,), (0,)))
        self.assertEqual(pieces_of(mixed), ((0, 3), (1, 2)))
        self.assertEqual(pieces_of(Table(("a",), ((),))), ())

    def test_example(self):
        self.assertEqual(pieces_of(table=FIVE), ((0, 1), (2,)))
        self.assertEqual(piece_table(table=FIVE, piece=(0, 1)).kinds, ("bun", "jam", "tea"))
        self.assertEqual(piece_table(FIVE, (2,)).totals, ((0,),))
        self.assertEqual(piece_totals(piece=(0, 1), table=FIVE), (0, 2, 4))
        self.assertEqual(piece_kinds(piece=(0, 1), table=FIVE), (0, 2, 4))

    def test_errors_hang_on_the_lines_of_a_piece(self):
        rng = random.Random(4)
        for table in TABLES:
            day = rounded(rng, random_lines(rng, table, 12))
            errors = errors_by_total(table, kind_errors(table, day))
            for piece in pieces_of(table):
                kinds, own = piece_kinds(table, piece), piece_table(table, piece)
                part = [(kinds.index(kind), amount, whole) for kind, amount, whole in day if kind in kinds]
                found = errors_by_total(own, kind_errors(own, part))
                self.assertEqual(found, [errors[at] for at in piece_totals(table, piece)])

    def test_kept_exactly_if_all_pieces_are(self):
        seen = set()
        for table in random_tables(11, 150, least_kinds=3, most_kinds=5, most_totals=5, sizes=(1, 2, 2, 3)):
            halves = ((1, 2),)
            whole = can_keep(table, halves, 5 if len(table.kinds) < 6 else 4)
            parts = [can_keep(piece_table(table, piece), halves, 5) for piece in pieces_of(table)]
            self.assertIs(whole, all(parts))
            seen.add((whole, len(parts) > 1))
        self.assertEqual(len(seen), 4)

    def test_kept_days_put_together(self):
        rng = random.Random(12)
        for table in TABLES[:40]:
            lines = random_lines(rng, table, 6)
            many = 1
            left = [line for line in lines if not any(line[0] in piece_kinds(table, piece) for piece in pieces_of(table))]
            for _, amount in left:
                many *= 1 if amount[1] == 1 else 2
            for piece in pieces_of(table):
                kinds = piece_kinds(table, piece)
                part = tuple((kinds.index(kind), amount) for kind, amount in lines if kind in kinds)
                many *= len(kept_days(piece_table(table, piece), part))
            self.assertEqual(len(kept_days(table, lines)), many)


if __name__ == "__main__":
    unittest.main()
