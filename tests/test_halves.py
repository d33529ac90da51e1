"""Promises [19] and [20]: lines of one half each."""

import random
import unittest
from fractions import Fraction
from itertools import product

from centsatonce.attacks import attack_day, beaten_total, height_of, is_attack
from centsatonce.days import first_off, is_day
from centsatonce.games import can_keep, can_keep_from
from centsatonce.halves import clerk_table, fewest_lines, half_states, is_clerk_table, least_attack, lost_states
from centsatonce.tables import Table
from tests.helpers import NAMES, Rude, Yes, deep_tuple, errors_by_total, every_table, is_good_table, kind_errors
from tests.helpers import odd_values, raised, random_tables, told, with_swapped

TABLES = random_tables(19, 150, most_kinds=4, most_totals=4)
RING = Table(("cup", "jam", "tea"), ((0, 1), (1, 2), (0, 2)))
ONE = Table(("cup",), ((0,),))
# With each state its opposite comes about, too: so there never are just 400 states.
MANY = Table(NAMES[:6], ((1, 3), (4, 5), (5,), (0, 2), (4,), (2, 4), (1, 3), (0, 3), (3, 4)))
FOUR_HUNDRED_ONE = Table(NAMES[:6], ((1, 2, 3), (3, 5), (2, 3, 5), (0, 3, 4), (0, 3, 5), (0, 1, 2), (0, 4)))
HALF = Fraction(1, 2)
SIZE = ("Refused", {"word": "size"})


def plain_states(table):
    """A dict from each state behind kept days to the errors of kinds on some way there."""
    start = (0,) * len(table.totals)
    known = {start: (0,) * len(table.kinds)}
    edge = [start]
    while edge:
        errors = known[edge.pop()]
        for kind, change in product(range(len(table.kinds)), (1, -1)):
            behind = list(errors)
            behind[kind] += change
            state = tuple(sum(behind[other] for other in total) for total in table.totals)
            if state not in known and all(abs(error) < 2 for error in state):
                known[state] = tuple(behind)
                edge.append(state)
    return known


class States(unittest.TestCase):

    def test_states_behind_days(self):
        for table in TABLES:
            known = plain_states(table)
            self.assertEqual(half_states(table), tuple(sorted(known)))
        for table in TABLES[:40]:
            found = set()
            for kinds in product(range(len(table.kinds)), repeat=3):
                for wholes in product((0, 1), repeat=3):
                    day = tuple((kind, (1, 2), whole) for kind, whole in zip(kinds, wholes))
                    if first_off(table, day) is None:
                        found.add(tuple(int(2 * error) for error in errors_by_total(table, kind_errors(table, day))))
            self.assertLessEqual(found, set(half_states(table)))

    def test_lost_states_are_lost_games(self):
        lost_some = 0
        for table in TABLES[:90]:
            lost = lost_states(table)
            known = plain_states(table)
            self.assertLessEqual(set(lost), set(known))
            for state in list(known)[:12]:
                errors = tuple(told(error * HALF) for error in known[state])
                fewest = lost.get(state)
                for lines in range(5):
                    if len(table.kinds) ** lines <= 300:
                        kept = can_keep_from(table, errors, ((1, 2),), lines)
                        self.assertIs(kept, fewest is None or lines < fewest)
                lost_some += fewest is not None
            self.assertEqual(fewest_lines(table), lost.get((0,) * len(table.totals)))
        self.assertGreater(lost_some, 100)

    def test_good_tables_lose_nothing_from_the_beginning(self):
        seen = set()
        for table in TABLES:
            fewest = fewest_lines(table)
            self.assertIs(fewest is None, is_good_table(table))
            seen.add(fewest)
        self.assertEqual(seen, {None, 3, 4})

    def test_all_small_tables(self):
        for table in every_table(3, 3):
            fewest = fewest_lines(table)
            self.assertIs(fewest is None, is_good_table(table))
            self.assertIs(can_keep(table, ((1, 2),), 2), True)
            self.assertIs(can_keep(table, ((1, 2),), 3), fewest is None or fewest > 3)
            self.assertIs(can_keep(table, ((1, 2),), 4), fewest is None or fewest > 4)

    def test_examples(self):
        self.assertEqual((len(half_states(RING)), fewest_lines(RING), lost_states(RING)[(0, -1, 1)]), (13, 3, 1))
        self.assertEqual(half_states(table=ONE), ((-1,), (0,), (1,)))
        self.assertEqual(lost_states(table=ONE), {})
        self.assertIsNone(fewest_lines(table=ONE))
        empty = Table(("cup", "tea"), ())
        self.assertEqual((half_states(empty), lost_states(empty), fewest_lines(empty)), (((),), {}, None))
        self.assertEqual(half_states(Table(("cup", "tea"), ((), (1,)))), ((0, -1), (0, 0), (0, 1)))

    def test_returned_dicts_are_new(self):
        found = lost_states(RING)
        found.clear()
        self.assertEqual(lost_states(RING)[(0, -1, 1)], 1)


class Limits(unittest.TestCase):

    def check_refused(self, table):
        for call in (half_states, lost_states, fewest_lines, clerk_table, least_attack):
            self.assertEqual(raised(call, table), SIZE)

    def test_four_hundred(self):
        known = plain_states(MANY)
        self.assertEqual(len(known), 399)
        self.assertEqual(half_states(MANY), tuple(sorted(known)))
        for call in (lost_states, fewest_lines, least_attack):
            self.assertIsNone(raised(call, MANY))
        self.assertIs(is_clerk_table(MANY, clerk_table(MANY)), True)
        self.assertEqual(len(plain_states(FOUR_HUNDRED_ONE)), 401)
        self.check_refused(FOUR_HUNDRED_ONE)

    def test_far_more(self):
        single = tuple((kind,) for kind in range(12))
        self.check_refused(Table(NAMES, single))
        self.assertEqual(len(half_states(Table(NAMES, single[:5]))), 243)
        self.check_refused(Table(NAMES, single[:6]))


class Papers(unittest.TestCase):

    def test_just_one_of_both(self):
        for table in TABLES:
            known, attack = clerk_table(table), least_attack(table)
            self.assertIs(known is None, attack is not None)
            if known is not None:
                self.assertIs(is_clerk_table(table, known), True)
                continue
            self.assertIs(is_attack(table, attack), True)
            self.assertEqual(height_of(attack), fewest_lines(table))
            for ups in product((0, 1), repeat=height_of(attack)):
                day = attack_day(attack, ups)
                self.assertTrue(all(amount == (1, 2) for _, amount, _ in day))
                off = errors_by_total(table, kind_errors(table, day))[beaten_total(attack, ups)]
                self.assertGreaterEqual(abs(off), 1)

    def test_who_keeps_halves_keeps_all(self):
        rng = random.Random(2)
        for table in TABLES:
            if clerk_table(table) is not None:
                bottom = rng.randint(3, 6)
                amounts = tuple(told(Fraction(rng.randint(1, bottom - 1), bottom)) for _ in range(2))
                self.assertIs(can_keep(table, amounts, 4), True)

    def test_walking_by_a_clerks_table(self):
        rng = random.Random(3)
        for table in TABLES:
            found = clerk_table(table)
            if found is None:
                continue
            ups = dict(found)
            day, state = (), (0,) * len(table.totals)
            for _ in range(30):
                kind = rng.randrange(len(table.kinds))
                day += ((kind, (1, 2), ups[state][kind]),)
                state = tuple(int(2 * error) for error in errors_by_total(table, kind_errors(table, day)))
                self.assertIn(state, ups)
            self.assertIs(is_day(table, day), True)

    def test_examples(self):
        self.assertIs(is_clerk_table(ONE, (((-1,), (1,)), ((0,), (0,)))), True)
        self.assertIs(is_clerk_table(value=(((0,), (1,)), ((1,), (0,))), table=ONE), True)
        self.assertEqual(clerk_table(table=Table(("cup",), ())), (((), (0,)),))
        self.assertIn(clerk_table(table=ONE)[1][0], ((0,),))
        self.assertIsNone(clerk_table(RING))
        self.assertIsNone(least_attack(table=ONE))
        self.assertEqual(height_of(least_attack(RING)), 3)
        self.assertIs(is_clerk_table(RING, ()), False)


class AnyValue(unittest.TestCase):

    def test_nearly_clerks_tables(self):
        right = (((-1,), (1,)), ((0,), (0,)), ((1,), (0,)))
        self.assertIs(is_clerk_table(ONE, right), True)
        for value in [right[:1], right[1:2], right[::-1], right[:1] + right[2:], (((-1,), (0,)),) + right[1:],
                      right[:2] + (((1,), (1,)),), right + right[2:], right[:2] + right[1:], list(right),
                      right[:2] + (((1,), (2,)),), right[:2] + (((1,), (-1,)),), right[:2] + (((2,), (0,)),),
                      right[:2] + (((1,), (0, 0)),), right[:2] + (((1,), ()),), right[:2] + (((1, 0), (0,)),),
                      right[:2] + (((1,), (0,), 0),), right[:2] + (((1,), [0]),), right[:2] + (([1], (0,)),),
                      right[:2] + (((1,), (False,)),), right[:2] + (((True,), (0,)),), (((-2,), (1,)),) + right,
                      (((-1,), (1,)), ((0,), (0,)), ((0,), (1,)), ((1,), (0,)))]:
            self.assertIs(is_clerk_table(ONE, value), False)

    def test_entries_of_two(self):
        right = (((-1,), (1,)), ((0,), (0,)), ((1,), (0,)))
        self.assertIs(is_clerk_table(ONE, (((-1,), (2,)), ((0,), (0,)))), False)
        self.assertIs(is_clerk_table(ONE, right + (((2,), (0,)),)), False)
        self.assertIs(is_clerk_table(ONE, (((-2,), (1,)),) + right), False)

    def test_all_pairs_of_states(self):
        two = Table(("a", "b"), ((0,), (0, 1)))
        states = list(product((-1, 0, 1), repeat=2))
        hits = ((1, 1), (0, 1))
        pairs = [(state, ups) for state in states for ups in product((0, 1), repeat=2)]
        rng = random.Random(4)
        right = 0
        whole = clerk_table(two)
        for _ in range(3000):
            value = list(whole)
            for _ in range(rng.randint(0, 3)):
                if rng.random() < 0.5 and value:
                    value.pop(rng.randrange(len(value)))
                else:
                    value.append(rng.choice(pairs))
            value = tuple(sorted(value) if rng.random() < 0.95 else value)
            ups = dict(value)
            expected = len(ups) == len(value) and value == tuple(sorted(value)) and (0, 0) in ups
            for state, told_ups in value:
                for hit, up in zip(hits, told_ups):
                    behind = tuple(error + (hit_one if up else -hit_one) for error, hit_one in zip(state, hit))
                    expected = expected and behind in ups
            self.assertIs(is_clerk_table(two, value), expected)
            right += expected
        self.assertGreater(right, 100)

    def test_states_that_do_not_come_about(self):
        # Both kinds change both totals alike, so the totals are never apart.
        twice = Table(("a", "b"), ((0, 1), (0, 1)))
        value = []
        for state in product((-1, 0, 1), repeat=2):
            if state[0] * state[1] >= 0:
                value.append((state, (1, 1) if sum(state) < 0 else (0, 0)))
        self.assertIs(is_clerk_table(twice, tuple(value)), True)
        self.assertEqual(len(half_states(twice)), 3)

    def test_other_values(self):
        right = clerk_table(Table(("a", "b"), ((0,), (0, 1))))
        two = Table(("a", "b"), ((0,), (0, 1)))
        for other in (True, False, None, 1.0, "1", [], Rude(), Yes(), 7, -2, deep_tuple(2000)):
            for value in with_swapped(right, other):
                self.assertIs(is_clerk_table(two, value), False)
        for value in odd_values():
            self.assertIs(is_clerk_table(two, value), False)
            self.assertIs(is_clerk_table(two, (value,)), False)
            self.assertIs(is_clerk_table(two, right + (value,)), False)

    def test_tables_of_any_size(self):
        table = Table(NAMES, tuple((kind,) for kind in range(7)))
        value = []
        for state in product((-1, 0, 1), repeat=7):
            value.append((state, tuple(int(error < 0) for error in state) + (0,) * 5))
        self.assertIs(is_clerk_table(table, tuple(value)), True)
        self.assertIs(is_clerk_table(table, tuple(value[1:])), False)


if __name__ == "__main__":
    unittest.main()
