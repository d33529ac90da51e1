"""Promise [26]: pressing."""

import random
import unittest
from fractions import Fraction
from itertools import product

from centsatonce.days import check_line, first_off, is_day
from centsatonce.derivations import count_differences, derived_by, is_derivation, reckonings_along
from centsatonce.levels import least_beyond
from centsatonce.pressing import press, pressed_day
from centsatonce.reckonings import is_beyond
from centsatonce.tables import Table
from tests.helpers import exact, is_good_table, plain_classes, random_fraction, random_tables, told
from tests.test_derivations import random_derivation

TABLES = [table for table in random_tables(26, 220, most_kinds=5, most_totals=5, sizes=(1, 2, 2, 3)) if table.totals]
RING = Table(("cup", "jam", "tea"), ((0, 1), (1, 2), (0, 2)))
STEPS = (("total", 0, 1), ("total", 1, 1), ("less", 1, 0, 1), ("total", 2, 1), ("less", 0, 3, 2))


def values_of(table, derivation, errors):
    """What is reckoned by each step, as Fractions."""
    classes = plain_classes(table)
    own = [sum((exact(errors[kind]) for kind in kinds), Fraction(0)) for kinds in classes]
    return [sum((entry * error for entry, error in zip(one, own)), Fraction(0))
            for one in reckonings_along(table, derivation)]


def first_off_of(values):
    return next((at for at, value in enumerate(values) if abs(value) >= 1), None)


def behind(errors, kind, amount, whole):
    return errors[:kind] + (told(exact(errors[kind]) + whole - exact(amount)),) + errors[kind + 1:]


def bad_derivations():
    """Tables that are not good, each with a derivation of something beyond, and some more steps before."""
    found = []
    rng = random.Random(9)
    for table in TABLES:
        derivation = least_beyond(table)
        if derivation is not None:
            found.append((table, derivation))
            more = random_derivation(rng, table, 3)
            longer = more + tuple(step if step[0] == "total" else step[:2] + (step[2] + 3, step[3] + 3)
                                  for step in derivation)
            found.append((table, longer))
    return found


class Press(unittest.TestCase):

    def check(self, table, derivation, errors):
        found = press(table, derivation, errors)
        values = values_of(table, derivation, errors)
        at = first_off_of(values)
        if at is None and not is_beyond(derived_by(table, derivation)):
            self.assertIsNone(found)
            return "none"
        if at is not None and derivation[at][0] == "total":
            self.assertEqual(found, ("off", derivation[at][1]))
            return "off"
        word, kind, amount = found
        self.assertEqual(word, "line")
        self.assertIn(kind, range(len(table.kinds)))
        self.assertEqual(told(exact(amount)), amount)
        self.assertTrue(0 < exact(amount) < 1)
        for whole in (0, 1):
            then = first_off_of(values_of(table, derivation, behind(errors, kind, amount, whole)))
            self.assertIsNotNone(then)
            if at is not None:
                self.assertLess(then, at)
        return "line" if at is None else "parting"

    def test_random_derivations(self):
        rng = random.Random(1)
        seen = {}
        for table in TABLES:
            for _ in range(6):
                derivation = random_derivation(rng, table, rng.randint(1, 8))
                errors = tuple(random_fraction(rng, 5) for _ in table.kinds)
                word = self.check(table, derivation, errors)
                seen[word] = seen.get(word, 0) + 1
        for table, derivation in bad_derivations():
            for _ in range(6):
                errors = tuple(random_fraction(rng, rng.choice((1, 2))) for _ in table.kinds)
                word = self.check(table, derivation, errors)
                seen[word] = seen.get(word, 0) + 1
        self.assertEqual(set(seen), {"none", "off", "line", "parting"})
        self.assertGreater(min(seen.values()), 50)

    def test_both_signs_at_the_class(self):
        for signs in product((1, -1), repeat=3):
            steps = (("total", 0, signs[0]), ("total", 1, signs[0]), ("less", 1, 0, 1), ("total", 2, signs[0]),
                     ("less", 0, 3, 2))
            self.assertIs(is_derivation(RING, steps), True)
            for numbers in product(range(-3, 4), repeat=3):
                self.check(RING, steps, tuple(told(Fraction(one, 4)) for one in numbers))

    def test_examples(self):
        zeros = ((0, 1),) * 3
        self.assertEqual((derived_by(RING, STEPS), press(RING, STEPS, zeros)), ((0, 0, 2), ("line", 2, (1, 2))))
        self.assertEqual(pressed_day(RING, STEPS, (1,)), ((2, (1, 2), 1), (0, (1, 2), 0), (1, (1, 2), 0)))
        self.assertEqual(press(errors=zeros, derivation=STEPS, table=RING), ("line", 2, (1, 2)))
        self.assertEqual(pressed_day(ups=(1,), derivation=STEPS, table=RING), pressed_day(RING, STEPS, (1, 0, 0, 0)))
        self.assertIsNone(press(RING, STEPS[:4], zeros))
        self.assertEqual(press(RING, STEPS[:1], ((1, 2), (1, 2), (0, 1))), ("off", 0))
        self.assertEqual(press(RING, STEPS[:1], ((-1, 2), (-1, 2), (0, 1))), ("off", 0))

    def test_large_errors(self):
        rng = random.Random(2)
        for table, derivation in bad_derivations()[:40]:
            errors = tuple(told(Fraction(rng.randint(-10 ** 40, 10 ** 40), 3 * 10 ** 40 + kind))
                           for kind in range(len(table.kinds)))
            self.check(table, derivation, errors)


class Days(unittest.TestCase):

    def test_both_ways_of_rounding_each_line(self):
        longest = 0
        for table, derivation in bad_derivations():
            most = count_differences(derivation) + 1
            for ups in product((0, 1), repeat=min(most, 5)):
                day = pressed_day(table, derivation, ups)
                self.assertIs(is_day(table, day, False), True)
                self.assertLessEqual(len(day), most)
                longest = max(longest, len(day))
                self.assertIsNotNone(first_off(table, day))
                errors = ((0, 1),) * len(table.kinds)
                for at, (kind, amount, whole) in enumerate(day):
                    self.assertEqual(press(table, derivation, errors), ("line", kind, amount))
                    check_line(table, (kind, amount))
                    self.assertEqual(whole, (ups + (0,) * 9)[at])
                    errors = behind(errors, kind, amount, whole)
                self.assertEqual(press(table, derivation, errors)[0], "off")
        self.assertGreater(longest, 3)

    def test_ups_behind_the_end(self):
        for table, derivation in bad_derivations()[:20]:
            self.assertEqual(pressed_day(table, derivation, ()), pressed_day(table, derivation, (0,) * 30))

    def test_from_errors_by_which_something_is_off(self):
        rng = random.Random(3)
        walked = 0
        table = Table(("a", "b", "c", "d"), ((0, 1), (1, 2), (2, 3), (3,)))
        derivation = (("total", 0, 1), ("total", 1, 1), ("less", 1, 0, 1), ("total", 2, -1), ("less", 2, 2, 3),
                      ("total", 3, 1), ("less", 3, 4, 5))
        self.assertEqual(derived_by(table, derivation), (1, 0, 0, 0))
        for numbers in product(range(-6, 7, 2), repeat=4):
            errors = tuple(told(Fraction(one, 5)) for one in numbers)
            if first_off_of(values_of(table, derivation, errors)) is None:
                continue
            found, lines = press(table, derivation, errors), 0
            while found[0] == "line":
                lines += 1
                errors = behind(errors, found[1], found[2], rng.randint(0, 1))
                found = press(table, derivation, errors)
            self.assertEqual(found[0], "off")
            self.assertLessEqual(lines, count_differences(derivation) + 1)
            walked += lines
        self.assertGreater(walked, 10)


if __name__ == "__main__":
    unittest.main()
