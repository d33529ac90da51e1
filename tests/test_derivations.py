"""Promises [22] and [23]: derivations."""

import random
import unittest

from centsatonce.derivations import count_differences, derived_by, is_derivation, joined_derivations, needed_steps
from centsatonce.derivations import reckonings_along, turned_derivation
from centsatonce.reckonings import agreements, is_beyond
from centsatonce.tables import Table
from tests.helpers import Rude, Yes, deep_tuple, odd_values, plain_classes, plain_totals, random_tables, with_swapped

TABLES = random_tables(22, 200, most_kinds=5, most_totals=5, sizes=(0, 1, 2, 2, 3, 4))
RING = Table(("cup", "jam", "tea"), ((0, 1), (1, 2), (0, 2)))
STEPS = (("total", 0, 1), ("total", 1, 1), ("less", 1, 0, 1), ("total", 2, 1), ("less", 0, 3, 2))


def plain_reckonings(table, derivation):
    """The reckonings of all steps, None if a step is wrong."""
    many, found = len(plain_classes(table)), []
    for step in derivation:
        if step[0] == "total":
            found.append(tuple(step[2] * (number in plain_totals(table)[step[1]]) for number in range(many)))
            continue
        _, number, one, other = step
        if max(one, other) >= len(found) or number >= many:
            return None
        left, right = found[one], found[other]
        if any(abs(entry) > 1 for entry in left + right) or left[number] != right[number] or left[number] == 0:
            return None
        found.append(tuple(a - b for a, b in zip(left, right)))
    return tuple(found)


def random_derivation(rng, table, many):
    """Some derivation of a table with totals."""
    steps, known = [], []
    while len(steps) < many:
        choices = [("total", rng.randrange(len(table.totals)), rng.choice((1, -1)))]
        if steps:
            one, other = rng.randrange(len(steps)), rng.randrange(len(steps))
            if not is_beyond(known[one]) and not is_beyond(known[other]):
                choices.extend([("less", number, one, other) for number in agreements(known[one], known[other])] * 3)
        steps.append(rng.choice(choices))
        known = plain_reckonings(table, steps)
    return tuple(steps)


def some_derivations(seed):
    """Tables, each with some derivation."""
    rng = random.Random(seed)
    return [(table, random_derivation(rng, table, rng.randint(1, 9))) for table in TABLES if table.totals]


class AnyValue(unittest.TestCase):

    def test_derivations(self):
        for table, steps in some_derivations(1):
            self.assertIs(is_derivation(table, steps), True)
            for many in range(1, len(steps)):
                self.assertIs(is_derivation(table, steps[:many]), True)
        self.assertIs(is_derivation(value=STEPS, table=RING), True)

    def test_all_differences(self):
        rng = random.Random(2)
        right = wrong = 0
        for table, steps in some_derivations(2):
            many = len(plain_classes(table))
            for _ in range(30):
                step = ("less", rng.randrange(many + 1), rng.randrange(len(steps) + 1), rng.randrange(len(steps) + 1))
                expected = plain_reckonings(table, steps + (step,)) is not None
                self.assertIs(is_derivation(table, steps + (step,)), expected)
                right += expected
                wrong += not expected
        self.assertGreater(min(right, wrong), 300)

    def test_nothing_is_taken_from_beyond(self):
        table = Table(("a", "b", "c"), ((0, 1), (1, 2), (0, 2), (0,)))
        steps = STEPS + (("total", 3, 1),)
        self.assertEqual(reckonings_along(table, steps)[4], (0, 0, 2))
        self.assertIs(is_derivation(table, steps), True)
        for step in (("less", 2, 4, 4), ("less", 2, 4, 1), ("less", 2, 1, 4)):
            self.assertIs(is_derivation(table, steps + (step,)), False)
        mixed = Table(("a", "b", "c"), ((0, 1), (0, 2), (0, 1, 2)))
        # The difference of the first two is (0, 1, -1), which agrees and clashes with the third one.
        steps = (("total", 0, 1), ("total", 1, 1), ("less", 0, 0, 1), ("total", 2, 1), ("less", 1, 2, 3))
        self.assertEqual(derived_by(mixed, steps), (-1, 0, -2))
        self.assertIs(is_derivation(mixed, steps + (("total", 0, -1), ("less", 0, 4, 5))), False)
        self.assertIs(is_derivation(mixed, steps + (("total", 0, -1), ("less", 0, 5, 4))), False)

    def test_the_same_one_twice(self):
        self.assertIs(is_derivation(RING, (("total", 0, 1), ("less", 1, 0, 0))), True)
        self.assertEqual(derived_by(RING, (("total", 0, 1), ("less", 1, 0, 0))), (0, 0, 0))
        self.assertIs(is_derivation(RING, (("total", 0, 1), ("less", 2, 0, 0))), False)
        self.assertIs(is_derivation(RING, (("total", 0, -1), ("total", 1, -1), ("less", 1, 0, 1))), True)
        self.assertIs(is_derivation(RING, (("total", 0, 1), ("total", 1, -1), ("less", 1, 0, 1))), False)

    def test_wrong_steps(self):
        first = ("total", 0, 1)
        wrong = [("total", 3, 1), ("total", -1, 1), ("total", 0, 0), ("total", 0, 2), ("total", 0, -2), ("total", 0),
                 ("total", 0, 1, 1), ["total", 0, 1], ("total", True, 1), ("total", 0, True), ("total", 0.0, 1),
                 ("total", 0, 1.0), ("Total", 0, 1), ("less", 0, 0), ("less", 0, 0, 0, 0), ("less", 3, 0, 0),
                 ("less", -1, 0, 0), ("less", 0, 1, 0), ("less", 0, 0, 1), ("less", 0, -1, 0), ("less", 0, 0, -1),
                 ("less", False, 0, 0), ("less", 0, False, 0), ("less", 0, 0, False), ["less", 0, 0, 0], ("more", 0, 0, 0),
                 ("", 0, 1), (), ("total",), ("less",), (None, 0, 1), (b"total", 0, 1), (("total",), 0, 1), "total", None, 0]
        for step in wrong + odd_values():
            for value in ((step,), (first, step), (first, step, first)):
                self.assertIs(is_derivation(RING, value), False)

    def test_other_values(self):
        for value in [(), [], [("total", 0, 1)], None, "total", 0, ("total", 0, 1), {0: ("total", 0, 1)}] + odd_values():
            self.assertIs(is_derivation(RING, value), False)

    def test_swapped_deep_within(self):
        for other in (True, False, None, 1.0, "1", [], Rude(), Yes(), deep_tuple(2000), 7, -2):
            for value in with_swapped(STEPS, other):
                self.assertIs(is_derivation(RING, value), False)

    def test_without_totals(self):
        self.assertIs(is_derivation(Table(("a",), ()), (("total", 0, 1),)), False)
        self.assertIs(is_derivation(Table(("a",), ((),)), (("total", 0, 1),)), True)
        self.assertIs(is_derivation(Table(("a",), ((),)), (("total", 0, 1), ("less", 0, 0, 0))), False)

    def test_long_ones(self):
        steps = (("total", 0, 1),) * 3000 + (("less", 0, 0, 2999),) * 3000
        self.assertIs(is_derivation(RING, steps), True)
        self.assertIs(is_derivation(RING, steps + (("less", 0, 2999, 3000),)), False)


class Derived(unittest.TestCase):

    def test_reckonings(self):
        for table, steps in some_derivations(3):
            found = plain_reckonings(table, steps)
            self.assertEqual(reckonings_along(table, steps), found)
            self.assertEqual(derived_by(table, steps), found[-1])
            self.assertEqual(count_differences(steps), sum(step[0] == "less" for step in steps))

    def test_sum_of_totals(self):
        for table, steps in some_derivations(4):
            times = []
            for step in steps:
                if step[0] == "total":
                    times.append([step[2] if at == step[1] else 0 for at in range(len(table.totals))])
                else:
                    times.append([one - other for one, other in zip(times[step[2]], times[step[3]])])
            totals = plain_totals(table)
            summed = tuple(sum(many for many, total in zip(times[-1], totals) if number in total)
                           for number in range(len(plain_classes(table))))
            self.assertEqual(derived_by(table, steps), summed)

    def test_turned(self):
        for table, steps in some_derivations(5):
            turned = turned_derivation(steps)
            self.assertIs(is_derivation(table, turned), True)
            self.assertEqual(derived_by(table, turned), tuple(-entry for entry in derived_by(table, steps)))
            self.assertEqual([step[0] for step in turned], [step[0] for step in steps])
            self.assertEqual(turned_derivation(turned), steps)
            for one, other in zip(steps, turned):
                self.assertEqual(other, one if one[0] == "less" else ("total", one[1], -one[2]))

    def test_joined(self):
        rng = random.Random(6)
        joined = 0
        for table in TABLES:
            if not table.totals:
                continue
            for _ in range(6):
                one, other = random_derivation(rng, table, 4), random_derivation(rng, table, 6)
                left, right = derived_by(table, one), derived_by(table, other)
                if is_beyond(left) or is_beyond(right):
                    continue
                for number in agreements(left, right):
                    both = joined_derivations(one, other, number)
                    self.assertIs(is_derivation(table, both), True)
                    self.assertEqual(derived_by(table, both), tuple(a - b for a, b in zip(left, right)))
                    self.assertEqual(both[:len(one)], one)
                    self.assertEqual(len(both), len(one) + len(other) + 1)
                    self.assertEqual(reckonings_along(table, both)[len(one):-1], reckonings_along(table, other))
                    self.assertEqual(both[-1], ("less", number, len(one) - 1, len(one) + len(other) - 1))
                    joined += 1
        self.assertGreater(joined, 100)
        chain = Table(("a", "b", "c", "d"), ((0, 1), (1, 2), (2, 3)))
        one = (("total", 0, 1),)
        other = (("total", 2, 1), ("total", 1, 1), ("less", 2, 1, 0))
        self.assertEqual(joined_derivations(one, other, 1), one + (("total", 2, 1), ("total", 1, 1), ("less", 2, 2, 1),
                                                                  ("less", 1, 0, 3)))
        self.assertEqual(derived_by(chain, joined_derivations(one, other, 1)), (1, 0, 0, 1))

    def test_needed(self):
        for table, steps in some_derivations(7):
            needed, marked = set(), [len(steps) - 1]
            while marked:
                at = marked.pop()
                needed.add(at)
                marked.extend(steps[at][2:] if steps[at][0] == "less" else ())
            left = needed_steps(steps)
            self.assertIs(is_derivation(table, left), True)
            every = reckonings_along(table, steps)
            self.assertEqual(reckonings_along(table, left), tuple(every[at] for at in sorted(needed)))
            self.assertEqual([step[:2] for step in left], [steps[at][:2] for at in sorted(needed)])
            self.assertEqual(needed_steps(left), left)

    def test_examples(self):
        self.assertEqual(derived_by(derivation=STEPS, table=RING), (0, 0, 2))
        self.assertEqual(reckonings_along(derivation=STEPS, table=RING),
                         ((1, 1, 0), (0, 1, 1), (1, 0, -1), (1, 0, 1), (0, 0, 2)))
        self.assertEqual(count_differences(derivation=STEPS), 2)
        self.assertEqual(needed_steps(derivation=STEPS[:4]), (("total", 2, 1),))
        self.assertEqual(needed_steps((("total", 1, 1),) + (("total", 0, 1),) * 2 + (("less", 0, 2, 2),)),
                         (("total", 0, 1), ("less", 0, 0, 0)))
        self.assertEqual(turned_derivation(derivation=STEPS[:3]), (("total", 0, -1), ("total", 1, -1), ("less", 1, 0, 1)))
        self.assertEqual(joined_derivations(number=1, other=(("total", 1, 1),), one=(("total", 0, 1),)), STEPS[:3])


if __name__ == "__main__":
    unittest.main()
