"""Promises [28], [30] and [32]: blocks and the court."""

import random
import unittest
from itertools import product

from centsatonce.attacks import is_attack
from centsatonce.court import Blocks, count_blocks, court, is_blocks, is_good, is_verdict, repainted, sides_of_total
from centsatonce.derived import closes
from centsatonce.games import can_keep
from centsatonce.halves import fewest_lines, least_attack
from centsatonce.knots import Knot, is_knot, parting_total, three_in
from centsatonce.tables import Table
from tests.helpers import NAMES, Rude, Yes, deep_tuple, errors_by_total, every_table, exact, is_good_table, odd_values
from tests.helpers import plain_classes, plain_totals, random_fraction, random_tables, with_swapped

TABLES = random_tables(28, 250, most_kinds=6, most_totals=6, sizes=(0, 1, 2, 2, 2, 3))
CHAIN = Table(("a", "b", "c"), ((1,), (0, 1), (1, 2)))
RING = Table(("cup", "jam", "tea"), ((0, 1), (1, 2), (0, 2)))


def plain_pieces(table):
    """The pieces, by joining what totals tie together."""
    pieces = [{number} for number in range(len(plain_classes(table)))]
    for total in plain_totals(table):
        met = [piece for piece in pieces if piece & set(total)]
        if met:
            pieces = [piece for piece in pieces if piece not in met] + [set().union(*met)]
    return tuple(sorted(tuple(sorted(piece)) for piece in pieces))


def right_colours(table):
    """All colours by which each total has at most one class of each, by trying."""
    totals = plain_totals(table)
    if any(len(total) > 2 for total in totals):
        return []
    return [colours for colours in product((1, -1), repeat=len(plain_classes(table)))
            if all(len(total) < 2 or colours[total[0]] != colours[total[1]] for total in totals)]


class Right(unittest.TestCase):

    def test_all_colours(self):
        good = 0
        for table in TABLES:
            right, pieces = right_colours(table), plain_pieces(table)
            self.assertEqual(count_blocks(table), len(right))
            self.assertIs(is_good(table), bool(right))
            self.assertIs(is_good(table), is_good_table(table))
            if right:
                good += 1
                self.assertEqual(len(right), 2 ** len(pieces))
            for colours in product((1, -1), repeat=len(plain_classes(table))):
                self.assertIs(is_blocks(table, Blocks(colours, pieces)), colours in right)
        self.assertGreater(good, 60)

    def test_repainted(self):
        for table in TABLES:
            right, pieces = right_colours(table), plain_pieces(table)
            if not right:
                continue
            found = {court(table).colours}
            for at, piece in enumerate(pieces):
                before = court(table)
                painted = repainted(before, at)
                self.assertIs(is_blocks(table, painted), True)
                self.assertEqual(painted.pieces, pieces)
                for number, colour in enumerate(painted.colours):
                    self.assertEqual(colour, before.colours[number] * (-1 if number in piece else 1))
                self.assertEqual(repainted(painted, at).colours, before.colours)
                self.assertEqual(before.colours, court(table).colours)
                found |= {repainted(Blocks(colours, pieces), at).colours for colours in found}
            self.assertEqual(found, set(right))

    def test_sides_and_signed_errors(self):
        rng = random.Random(1)
        for table in TABLES:
            for colours in right_colours(table)[:4]:
                blocks = Blocks(colours, plain_pieces(table))
                errors = [random_fraction(rng) for _ in table.kinds]
                signed = [sum(exact(errors[kind]) for kind in kinds) * colour
                          for kinds, colour in zip(plain_classes(table), colours)]
                totals = errors_by_total(table, [exact(error) for error in errors])
                for total, classes in enumerate(plain_totals(table)):
                    sides = sides_of_total(table, blocks, total)
                    for side, colour in zip(sides, (1, -1)):
                        own = [number for number in classes if colours[number] == colour]
                        self.assertEqual(side, own[0] if own else None)
                    white, black = [0 if side is None else signed[side] for side in sides]
                    self.assertEqual(totals[total], white - black)

    def test_examples(self):
        blocks = court(CHAIN)
        self.assertEqual((blocks.colours, blocks.pieces, sides_of_total(CHAIN, blocks, 0)),
                         ((1, -1, 1), ((0, 1, 2),), (None, 1)))
        self.assertEqual(sides_of_total(total=1, blocks=blocks, table=CHAIN), (0, 1))
        self.assertEqual(repainted(at=0, blocks=blocks).colours, (-1, 1, -1))
        self.assertIs(is_good(table=CHAIN), True)
        self.assertEqual(count_blocks(table=CHAIN), 2)
        empty = Table(("a", "b"), ((), ()))
        self.assertEqual((court(empty).colours, court(empty).pieces, count_blocks(empty)), ((), (), 1))
        self.assertEqual(sides_of_total(empty, court(empty), 1), (None, None))
        self.assertIs(is_good(empty), True)
        single = Table(NAMES, tuple((kind,) for kind in range(12)))
        self.assertEqual(count_blocks(single), 4096)
        self.assertEqual(count_blocks(RING), 0)
        self.assertEqual(vars(Blocks(colours=1, pieces=None)), {"colours": 1, "pieces": None})


class Court(unittest.TestCase):

    def test_right_ones_of_just_one_class(self):
        words = set()
        for table in TABLES:
            verdict = court(table)
            self.assertIs(is_verdict(table, verdict), True)
            self.assertIs(isinstance(verdict, Blocks), is_good_table(table))
            if isinstance(verdict, Blocks):
                self.assertIs(is_blocks(table, verdict), True)
                self.assertIs(is_knot(table, verdict), False)
                for piece in verdict.pieces:
                    self.assertEqual(verdict.colours[piece[0]], 1)
                words.add("blocks")
            else:
                self.assertIs(is_knot(table, verdict), True)
                self.assertIs(is_blocks(table, verdict), False)
                words.add(verdict.word)
        self.assertEqual(words, {"blocks", "three", "ring"})

    def test_no_right_knot_for_good_tables(self):
        for table in TABLES:
            many = len(table.totals)
            pairs = [(one, other) for one in range(many) for other in range(one + 1, many)]
            threes = [Knot("three", total, pair) for total in range(many) for pair in pairs]
            if is_good_table(table):
                self.assertFalse(any(is_verdict(table, knot) for knot in threes))
            elif any(len(total) > 2 for total in plain_totals(table)):
                self.assertTrue(any(is_verdict(table, knot) for knot in threes))

    def test_parting_totals_and_threes(self):
        for table in TABLES:
            totals = plain_totals(table)
            for one, other in product(range(len(plain_classes(table))), repeat=2):
                if one != other:
                    parting = [at for at, total in enumerate(totals) if (one in total) != (other in total)]
                    self.assertEqual(parting_total(table, one, other), parting[0])
            for at, total in enumerate(totals):
                self.assertIs(three_in(table, at) is None, len(total) < 3)

    def test_all_are_alike(self):
        tables = [table for table in TABLES if len(table.kinds) <= 4][:100]
        for table in tables + list(every_table(3, 3)):
            good = is_good_table(table)
            self.assertIs(is_good(table), good)
            self.assertIs(closes(table), good)
            self.assertIs(fewest_lines(table) is None, good)
            attack = least_attack(table)
            self.assertIs(attack is None, good)
            if not good:
                self.assertIs(is_attack(table, attack), True)
                self.assertLessEqual(fewest_lines(table), 11)
            if len(table.kinds) <= 3:
                for fractions in (((1, 3),), ((1, 2), (2, 5))):
                    self.assertTrue(not good or can_keep(table, fractions, 4))

    def test_twelve_classes(self):
        line = Table(NAMES, tuple((at, at + 1) for at in range(11)) + ((11,),))
        self.assertEqual(court(line).colours, (1, -1) * 6)
        bent = Table(NAMES, tuple((at, at + 1) for at in range(11)) + ((0, 2),))
        self.assertEqual((court(bent).word, len(court(bent).at)), ("ring", 3))


class AnyValue(unittest.TestCase):

    def test_wrong_blocks(self):
        right = court(CHAIN)
        for colours in [(1, -1), (1, -1, 1, 1), (1, 1, 1), (1, 1, -1), (1, -1, -1), [1, -1, 1], (1, -1, 2), (1, -1, 0),
                        (True, -1, 1), (1, -1, True), (1.0, -1, 1), (1, -1, None), (1, -1, "1"), ()] + odd_values():
            for value in (Blocks(colours, right.pieces), (colours, right.pieces)):
                self.assertIs(is_blocks(CHAIN, value), False)
                self.assertIs(is_verdict(CHAIN, value), False)
        for pieces in [((0, 1),), ((0, 1, 2), ()), ((0, 1), (2,)), ((0, 2, 1),), ((0, 1, 2), (0, 1, 2)), ([0, 1, 2],),
                       [(0, 1, 2)], ((0, True, 2),), ((False, 1, 2),), ((0, 1.0, 2),), ((0, 1, 2, 3),), ((-1, 0, 1, 2),),
                       (0, 1, 2), ()] + odd_values():
            self.assertIs(is_blocks(CHAIN, Blocks(right.colours, pieces)), False)
            self.assertIs(is_verdict(CHAIN, Blocks(right.colours, pieces)), False)
        self.assertIs(is_blocks(value=right, table=CHAIN), True)
        self.assertIs(is_verdict(value=right, table=CHAIN), True)

    def test_blocks_of_other_tables(self):
        for table in TABLES[:60]:
            for other in TABLES[:60]:
                verdict = court(other)
                if isinstance(verdict, Blocks):
                    expected = verdict.colours in right_colours(table) and verdict.pieces == plain_pieces(table)
                    self.assertIs(is_blocks(table, verdict), expected)
                self.assertIs(is_verdict(table, verdict), is_knot(table, verdict) or is_blocks(table, verdict))

    def test_other_values(self):
        for value in odd_values() + [(), Knot("three", 0, (1, 2)), Knot(Rude(), Rude(), Rude()), Blocks(Rude(), Rude()),
                                     Blocks(Yes(), Yes())]:
            for table in (CHAIN, RING):
                self.assertIs(is_blocks(table, value), False)
                self.assertIs(is_verdict(table, value), False)
        right = court(CHAIN)
        for other in (True, False, None, 1.0, "1", [], Rude(), Yes(), 7, -2, deep_tuple(2000)):
            for colours in with_swapped(right.colours, other):
                self.assertIs(is_blocks(CHAIN, Blocks(colours, right.pieces)), False)
            for pieces in with_swapped(right.pieces, other):
                self.assertIs(is_blocks(CHAIN, Blocks(right.colours, pieces)), False)
        for other in (True, None, 1.0, "1", [], Rude(), Yes(), 7, deep_tuple(2000)):
            knot = court(RING)
            for at in with_swapped(knot.at, other):
                self.assertIs(is_verdict(RING, Knot("ring", at, knot.totals)), False)


if __name__ == "__main__":
    unittest.main()
