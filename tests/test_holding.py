"""Promise [45]: errors that are held in told sequences."""

import random
import unittest
from fractions import Fraction
from itertools import product

from centsatonce.days import choices
from centsatonce.games import can_keep_told
from centsatonce.holding import allowed_in, can_hold, told_day
from centsatonce.tables import Table, class_numbers
from tests.helpers import NAMES, exact, is_kept_day, plain_classes, raised, random_fraction, random_tables, told
from tests.test_sequences import plain_closures, random_sequence

TABLES = random_tables(45, 150, most_kinds=5, most_totals=4, sizes=(0, 1, 2, 2, 3, 4))
TABLE = Table(("x", "y", "z"), ((0, 1, 2), (0, 2), (1, 2)))
LOST = ("Refused", {"word": "lost"})


def is_plain_held(table, sequence, place, errors):
    """Whether all that is due at a place is small, by the words of the promise."""
    own = [sum((exact(errors[kind]) for kind in kinds), Fraction(0)) for kinds in plain_classes(table)]
    return all(abs(sum(entry * error for entry, error in zip(one, own))) < 1
               for one in plain_closures(table, sequence)[place])


def met_errors(rng, table, sequence, place, size):
    """Errors that are 0 for kinds of classes that are not met."""
    numbers = class_numbers(table)
    met = {numbers[kind] for kind in sequence[:place]}
    return tuple(random_fraction(rng, size) if numbers[kind] in met else (0, 1) for kind in range(len(table.kinds)))


def behind(errors, kind, amount, whole):
    return errors[:kind] + (told(exact(errors[kind]) + whole - exact(amount)),) + errors[kind + 1:]


def kept_sequences(seed, many, most):
    """Tables, each with some sequences that can be kept."""
    rng = random.Random(seed)
    for table in TABLES:
        for _ in range(many):
            sequence = random_sequence(rng, table, most)
            if plain_closures(table, sequence) is not None:
                yield table, sequence


class Held(unittest.TestCase):

    def test_random_errors(self):
        rng = random.Random(1)
        seen = {True: 0, False: 0}
        for table, sequence in kept_sequences(1, 8, 7):
            place = rng.randint(0, len(sequence))
            errors = met_errors(rng, table, sequence, place, rng.choice((1, 2, 4)))
            held = is_plain_held(table, sequence, place, errors)
            self.assertIs(can_hold(table, sequence, place, errors), held)
            seen[held] += 1
            if place < len(sequence):
                amount = random_fraction(rng, 5)
                right = tuple(whole for whole in choices(amount)
                              if is_plain_held(table, sequence, place + 1, behind(errors, sequence[place], amount, whole)))
                self.assertEqual(allowed_in(table, sequence, place, errors, amount), right)
                self.assertTrue(right or not held)
        self.assertGreater(min(seen.values()), 100)

    def test_all_amounts_in_parts(self):
        # Whoever is held keeps the rest; whoever is not held is beaten by some amounts.
        rng = random.Random(2)
        seen = {}
        parts = tuple(told(Fraction(top, 4)) for top in range(4))
        for table, sequence in kept_sequences(2, 6, 4):
            place = rng.randint(0, len(sequence))
            numbers = class_numbers(table)
            met = {numbers[kind] for kind in sequence[:place]}
            errors = tuple(told(Fraction(rng.randint(-3, 3), 4)) if numbers[kind] in met else (0, 1)
                           for kind in range(len(table.kinds)))
            if len(parts) ** (len(sequence) - place) > 5000:
                continue
            held = can_hold(table, sequence, place, errors)
            kept = can_keep_told(table, errors, sequence[place:], parts)
            self.assertIs(kept, held, (table.totals, sequence, place, errors))
            seen[held] = seen.get(held, 0) + 1
        self.assertGreater(min(seen[True], seen[False]), 40)

    def test_edges(self):
        one = Table(("cup",), ((0,),))
        for errors, held in ((((1, 1),), False), (((-1, 1),), False), (((999, 1000),), True), (((0, 1),), True)):
            self.assertIs(can_hold(one, (0, 0), 1, errors), held)
        free = Table(("cup", "tea"), ((0,),))
        self.assertIs(can_hold(free, (1, 1), 2, ((0, 1), (99, 2))), True)
        self.assertEqual(allowed_in(free, (1, 1), 1, ((0, 1), (99, 2)), (7, 2)), (3, 4))
        self.assertEqual(allowed_in(free, (0, 1), 0, ((0, 1), (0, 1)), (7, 1)), (7,))
        self.assertIs(can_hold(one, (), 0, ((0, 1),)), True)

    def test_several_kinds_of_one_class(self):
        table = Table(("a", "b", "c"), ((0, 1), (2,)))
        self.assertIs(can_hold(table, (0, 1), 2, ((5, 1), (-9, 2), (0, 1))), True)
        self.assertIs(can_hold(table, (0, 1), 2, ((5, 1), (-4, 1), (0, 1))), False)
        self.assertEqual(allowed_in(table, (0, 1), 1, ((1, 2), (0, 1), (0, 1)), (1, 2)), (0,))

    def test_examples(self):
        self.assertEqual(allowed_in(TABLE, (0, 2, 1), 1, ((1, 2), (0, 1), (0, 1)), (1, 3)), (0,))
        self.assertEqual(told_day(TABLE, (0, 2, 1), ((1, 2), (1, 2))), ((0, (1, 2), 0), (2, (1, 2), 1)))
        self.assertIs(can_hold(errors=((0, 1),) * 3, place=0, sequence=(0, 2, 1), table=TABLE), True)
        self.assertEqual(allowed_in(amount=(1, 3), errors=((0, 1),) * 3, place=0, sequence=(0, 2, 1), table=TABLE), (0, 1))
        self.assertEqual(told_day(amounts=(), sequence=(0, 2, 1), table=TABLE), ())

    def test_lost(self):
        for sequence in ((1, 0, 2), (0, 0, 1, 0, 2)):
            for place in range(len(sequence)):
                self.assertEqual(raised(can_hold, TABLE, sequence, place, ((0, 1),) * 3), LOST)
                self.assertEqual(raised(allowed_in, TABLE, sequence, place, ((0, 1),) * 3, (1, 2)), LOST)
            for amounts in ((), ((1, 2),), ((1, 2),) * len(sequence)):
                self.assertEqual(raised(told_day, TABLE, sequence, amounts), LOST)
        rng = random.Random(3)
        lost = 0
        for table in random_tables(46, 150, most_kinds=4, most_totals=5, sizes=(2, 2, 3), least_kinds=3):
            sequence = random_sequence(rng, table, 12)
            expected = LOST if plain_closures(table, sequence) is None else None
            lost += expected is not None
            self.assertEqual(raised(can_hold, table, sequence, len(sequence), ((0, 1),) * len(table.kinds)), expected)
            self.assertEqual(raised(told_day, table, sequence, ()), expected)
        self.assertGreater(lost, 10)


class Days(unittest.TestCase):

    def test_least_allowed_wholes(self):
        rng = random.Random(4)
        lines = 0
        for table, sequence in kept_sequences(4, 4, 8):
            amounts = tuple(random_fraction(rng, 6) for _ in sequence[:rng.randint(0, len(sequence))])
            day = told_day(table, sequence, amounts)
            self.assertEqual(tuple(line[:2] for line in day), tuple(zip(sequence, amounts)))
            self.assertTrue(is_kept_day(table, day))
            errors = ((0, 1),) * len(table.kinds)
            for place, (kind, amount, whole) in enumerate(day):
                self.assertIs(can_hold(table, sequence, place, errors), True)
                self.assertEqual(whole, allowed_in(table, sequence, place, errors, amount)[0])
                errors = behind(errors, kind, amount, whole)
                lines += 1
        self.assertGreater(lines, 300)

    def test_all_amounts(self):
        parts = tuple(told(Fraction(top, 6)) for top in range(6))
        for amounts in product(parts, repeat=3):
            self.assertTrue(is_kept_day(TABLE, told_day(TABLE, (0, 2, 1), amounts)))

    def test_long_sequences(self):
        rng = random.Random(5)
        line = Table(NAMES, tuple((at, at + 1) for at in range(11)) + ((11,),))
        ring = Table(NAMES[:3], ((0, 1), (1, 2), (0, 2)))
        for table, sequence in ((line, tuple(rng.randrange(12) for _ in range(400))), (ring, (0, 1) * 200)):
            amounts = tuple(told(Fraction(rng.randint(-10 ** 6, 10 ** 6), rng.randint(1, 10 ** 6))) for _ in sequence)
            day = told_day(table, sequence, amounts)
            self.assertEqual(len(day), 400)
            self.assertTrue(is_kept_day(table, day[:60]))
            errors = {}
            for kind, amount, whole in day:
                errors[kind] = errors.get(kind, Fraction(0)) + whole - exact(amount)
                for total in table.totals:
                    self.assertLess(abs(sum(errors.get(own, 0) for own in total)), 1)
            behind_all = tuple(told(errors.get(kind, Fraction(0))) for kind in range(len(table.kinds)))
            self.assertIs(can_hold(table, sequence, 400, behind_all), True)
            self.assertIs(can_hold(table, sequence, 0, ((0, 1),) * len(table.kinds)), True)
        self.assertEqual(raised(told_day, ring, (0, 1) * 199 + (2, 0), ()), None if plain_closures(
            ring, (0, 1) * 199 + (2, 0)) is not None else LOST)

    def test_very_long_errors(self):
        rng = random.Random(6)
        line = Table(NAMES, tuple((at, at + 1) for at in range(11)) + ((11,),))
        sequence = tuple(range(12)) * 3
        errors = tuple(told(Fraction(rng.randint(0, 10 ** 4000), 3 * 10 ** 4000 + rng.randint(0, 10 ** 3000)))
                       for _ in range(12))
        self.assertIs(can_hold(line, sequence, 36, errors), True)
        self.assertIs(can_hold(line, sequence, 36, (told(exact(errors[0]) + 1),) + errors[1:]), False)


if __name__ == "__main__":
    unittest.main()
