"""Promises [6] and [7]: fractions of any size."""

import random
import unittest
from fractions import Fraction
from math import ceil, floor, gcd

from centsatonce.numbers import added, ceiling_of, floor_of, fraction_of, greatest_of, is_fraction, is_less, is_small
from centsatonce.numbers import is_small_sum, least_of, opposite_of, part_of, sum_of, taken, timed, weighed
from tests.helpers import Rude, Yes, exact, odd_values, raised, told

HUGE = 10 ** 4000 + 7


def some_fractions():
    rng = random.Random(6)
    some = [(top, bottom) for top in range(-13, 14) for bottom in range(1, 8) if gcd(top, bottom) == 1]
    for size in (10, 1000, 10 ** 6, 10 ** 40, 10 ** 300):
        for _ in range(12):
            some.append(told(Fraction(rng.randint(-size, size), rng.randint(1, size))))
    return some + [(HUGE, HUGE + 1), (-HUGE, 3), (1, HUGE)]


SOME = some_fractions()


def some_pairs():
    rng = random.Random(7)
    return [(rng.choice(SOME), rng.choice(SOME)) for _ in range(3000)]


class Making(unittest.TestCase):

    def test_fraction_of(self):
        for top in range(-30, 31):
            for bottom in list(range(-30, 0)) + list(range(1, 31)):
                self.assertEqual(fraction_of(top, bottom), told(Fraction(top, bottom)))

    def test_fraction_of_any_size(self):
        self.assertEqual(fraction_of(HUGE * 6, HUGE * -4), (-3, 2))
        self.assertEqual(fraction_of(-HUGE * 6, HUGE * -4), (3, 2))
        self.assertEqual(fraction_of(0, -HUGE), (0, 1))
        self.assertEqual(fraction_of(HUGE * 10 ** 4000, HUGE), (10 ** 4000, 1))

    def test_bottom_of_0(self):
        for top in (0, 1, -1, HUGE):
            self.assertEqual(raised(fraction_of, top, 0), ("InvalidNumber", {"word": "bottom"}))
        self.assertEqual(raised(fraction_of, bottom=0, top=1), ("InvalidNumber", {"word": "bottom"}))

    def test_named_parameters(self):
        self.assertEqual(fraction_of(bottom=-4, top=6), (-3, 2))
        self.assertEqual(added(other=(1, 6), one=(1, 2)), (2, 3))
        self.assertEqual(taken(other=(1, 6), one=(1, 2)), (1, 3))
        self.assertEqual(timed(other=(1, 6), one=(1, 2)), (1, 12))
        self.assertEqual(opposite_of(one=(1, 2)), (-1, 2))
        self.assertEqual(sum_of(some=((1, 2),)), (1, 2))
        self.assertEqual(weighed(some=((1, 2),), weights=(3,)), (3, 2))
        self.assertIs(is_less(other=(1, 6), one=(1, 2)), False)
        self.assertIs(is_small(one=(1, 2)), True)
        self.assertEqual((least_of(some=((1, 2),)), greatest_of(some=((1, 2),))), ((1, 2), (1, 2)))
        self.assertEqual((floor_of(one=(1, 2)), ceiling_of(one=(1, 2)), part_of(one=(3, 2))), (0, 1, (1, 2)))


class AnyValue(unittest.TestCase):

    def test_fractions(self):
        for one in SOME:
            self.assertIs(is_fraction(one), True, one)

    def test_all_small_pairs(self):
        for top in range(-12, 13):
            for bottom in range(-12, 13):
                right = bottom > 0 and gcd(top, bottom) == 1
                self.assertIs(is_fraction((top, bottom)), right, (top, bottom))

    def test_wholes(self):
        for whole in range(-5, 6):
            self.assertIs(is_fraction((whole, 1)), True)
        self.assertIs(is_fraction((0, 2)), False)
        self.assertIs(is_fraction((HUGE * 2, HUGE * 4)), False)
        self.assertIs(is_fraction((HUGE, HUGE)), False)

    def test_other_values(self):
        for value in odd_values():
            self.assertIs(is_fraction(value=value), False)

    def test_nearly_fractions(self):
        for value in ((True, 2), (1, True), (False, 1), (0, True), [1, 2], (1, 2, 3), (1,), (1.0, 2), (1, 2.0),
                      ("1", "2"), (1, "2"), (1, None), (None, 1), ((1, 2), 1), (Rude(), 2), (1, Rude()), (Yes(), 1),
                      (1, Yes()), Fraction(1, 2), "12", 1, 0):
            self.assertIs(is_fraction(value), False, repr(type(value)))


class Sums(unittest.TestCase):

    def test_two(self):
        for one, other in some_pairs():
            left, right = exact(one), exact(other)
            self.assertEqual(added(one, other), told(left + right))
            self.assertEqual(taken(one, other), told(left - right))
            self.assertEqual(timed(one, other), told(left * right))
            self.assertIs(is_less(one, other), left < right)

    def test_one(self):
        for one in SOME:
            self.assertEqual(opposite_of(one), told(-exact(one)))
            self.assertIs(is_less(one, one), False)
            self.assertIs(is_small(one), -1 < exact(one) < 1)
            self.assertEqual(floor_of(one), floor(exact(one)))
            self.assertEqual(ceiling_of(one), ceil(exact(one)))
            self.assertEqual(part_of(one), told(exact(one) - floor(exact(one))))

    def test_small_edges(self):
        self.assertEqual([is_small(one) for one in ((1, 1), (-1, 1), (0, 1), (2, 3), (-2, 3), (3, 2), (-3, 2))],
                         [False, False, True, True, True, False, False])
        self.assertIs(is_small((HUGE, HUGE + 1)), True)
        self.assertIs(is_small((-HUGE - 1, HUGE)), False)

    def test_many(self):
        rng = random.Random(8)
        for many in list(range(9)) * 30:
            some = tuple(rng.choice(SOME) for _ in range(many))
            weights = tuple(rng.choice((0, 1, -1, 2, -7, 100, HUGE)) for _ in range(many))
            values = [exact(one) for one in some]
            self.assertEqual(sum_of(some), told(sum(values, Fraction(0))))
            self.assertIs(is_small_sum(some), -1 < sum(values, Fraction(0)) < 1)
            product = sum((weight * one for weight, one in zip(weights, values)), Fraction(0))
            self.assertEqual(weighed(weights, some), told(product))
            self.assertEqual(least_of(some), told(min(values)) if some else None)
            self.assertEqual(greatest_of(some), told(max(values)) if some else None)

    def test_none(self):
        self.assertEqual(sum_of(()), (0, 1))
        self.assertEqual(weighed((), ()), (0, 1))
        self.assertIs(is_small_sum(()), True)
        self.assertIsNone(least_of(()))
        self.assertIsNone(greatest_of(()))

    def test_results_are_fractions(self):
        for one, other in some_pairs()[:500]:
            for result in (added(one, other), taken(one, other), timed(one, other), part_of(one), opposite_of(one)):
                self.assertIs(is_fraction(result), True)
        for whole in (floor_of((7, 2)), ceiling_of((7, 2)), floor_of((0, 1)), ceiling_of((-4, 1))):
            self.assertIs(type(whole), int)

    def test_floor_and_ceiling_are_next_to_a_fraction(self):
        for one in SOME:
            low, high = floor_of(one), ceiling_of(one)
            self.assertEqual(high - low, 0 if one[1] == 1 else 1)
            self.assertIs(is_less(one, (low, 1)), False)
            self.assertIs(is_less((high, 1), one), False)

    def test_examples(self):
        self.assertEqual((fraction_of(6, -4), added((1, 2), (1, 6)), weighed((2, -1), ((1, 2), (1, 3)))),
                         ((-3, 2), (2, 3), (2, 3)))
        self.assertEqual((floor_of((-7, 3)), ceiling_of((-7, 3)), part_of((-7, 3)), part_of((4, 1))),
                         (-3, -2, (2, 3), (0, 1)))


if __name__ == "__main__":
    unittest.main()
