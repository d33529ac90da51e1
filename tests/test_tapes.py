"""Promise [71]: tapes."""

import random
import unittest
from fractions import Fraction

from centsatonce.tables import Table
from centsatonce.tapes import check_tape, count_strikes, is_last_first, is_tape, standing_day, standing_places
from centsatonce.tapes import tape_course, tape_errors
from tests.helpers import Rude, Yes, deep_tuple, errors_by_total, exact, kind_errors, odd_values, raised, random_lines
from tests.helpers import random_tables, rounded, told, with_swapped

TABLES = random_tables(71, 120, most_kinds=4, most_totals=4)
TABLE = Table(("cup", "tea"), ((0,), (0, 1)))
TAPE = ((0, (1, 2), 1), (1, (1, 2), 0), (0, (1, 2), 0), ("struck", 2))


def random_tape(rng, table, many):
    """A tape of a table, with the indexes of its lines that stand in the end."""
    tape, standing = [], []
    for at in range(many):
        if standing and rng.random() < 0.4:
            index = standing.pop(rng.randrange(len(standing)))
            tape.append(("struck", index))
        else:
            tape.extend(rounded(rng, random_lines(rng, table, 1)))
            standing.append(at)
    return tuple(tape), tuple(sorted(standing))


def invalid(at):
    return ("InvalidDay", {"at": at})


class Standing(unittest.TestCase):

    def test_random_tapes(self):
        rng = random.Random(1)
        for table in TABLES:
            for _ in range(5):
                tape, standing = random_tape(rng, table, rng.randint(0, 12))
                self.assertIsNone(check_tape(table, tape))
                self.assertEqual(standing_places(tape), standing)
                self.assertEqual(standing_day(tape), tuple(tape[at] for at in standing))
                self.assertEqual(count_strikes(tape), (len(tape) - len(standing)) // 2)
                errors = errors_by_total(table, kind_errors(table, standing_day(tape)))
                self.assertEqual(tape_errors(table, tape), tuple(map(told, errors)))
                self.assertEqual(tape_course(table, tape),
                                 tuple(tape_errors(table, tape[:many]) for many in range(len(tape) + 1)))
                deeds = tuple(item[:2] for item in tape)
                self.assertEqual(standing_places(deeds), standing)
                self.assertEqual(count_strikes(deeds), count_strikes(tape))
                self.assertIs(is_last_first(deeds), is_last_first(tape))

    def test_last_first(self):
        rng = random.Random(2)
        seen = set()
        for table in TABLES:
            tape, _ = random_tape(rng, table, rng.randint(0, 7))
            expected = True
            for at, item in enumerate(tape):
                if item[0] == "struck" and standing_places(tape[:at])[-1] != item[1]:
                    expected = False
            self.assertIs(is_last_first(tape), expected)
            seen.add(expected)
        self.assertEqual(len(seen), 2)
        line = (0, (1, 2))
        self.assertIs(is_last_first((line, line, ("struck", 1), ("struck", 0), line, ("struck", 4))), True)
        self.assertIs(is_last_first((line, line, ("struck", 0))), False)
        self.assertIs(is_last_first((line, line, ("struck", 0), ("struck", 1))), False)
        self.assertIs(is_last_first(()), True)

    def test_examples(self):
        self.assertEqual(standing_day(tape=TAPE), ((0, (1, 2), 1), (1, (1, 2), 0)))
        self.assertEqual(tape_errors(tape=TAPE, table=TABLE), ((1, 2), (0, 1)))
        self.assertEqual(tape_course(tape=TAPE, table=TABLE),
                         (((0, 1), (0, 1)), ((1, 2), (1, 2)), ((1, 2), (0, 1)), ((0, 1), (-1, 2)), ((1, 2), (0, 1))))
        self.assertEqual(standing_places(items=TAPE), (0, 1))
        self.assertEqual(count_strikes(items=TAPE), 1)
        self.assertIs(is_last_first(items=TAPE), True)
        self.assertEqual(tape_course(TABLE, ()), (((0, 1), (0, 1)),))
        self.assertEqual((standing_places(()), standing_day(()), count_strikes(())), ((), (), 0))


class Checked(unittest.TestCase):

    def test_four_hundred_items(self):
        line = (0, (1, 2), 0)
        self.assertIsNone(check_tape(TABLE, (line,) * 400))
        self.assertEqual(raised(check_tape, TABLE, (line,) * 401), invalid(-1))
        self.assertIsNone(check_tape(TABLE, (line,) * 200 + tuple(("struck", at) for at in range(200))))
        both = ((1, (1, 2), 1), (1, (1, 2), 0)) * 200
        self.assertIs(is_tape(TABLE, both), True)
        self.assertIs(is_tape(TABLE, both + both[:1]), False)

    def test_wrong_strikes(self):
        line = (0, (1, 2), 0)
        for tape, at in [((("struck", 0),), 0), ((line, ("struck", 1)), 1), ((line, ("struck", 0), ("struck", 0)), 2),
                         ((line, ("struck", 0), ("struck", 1)), 2), ((line, ("struck", -1)), 1),
                         ((line, ("struck", 2), line), 1), ((line, ("struck", 0, 0)), 1), ((line, ("struck",)), 1),
                         ((line, ("Struck", 0)), 1), ((line, ["struck", 0]), 1), ((line, ("struck", False)), 1),
                         ((line, ("struck", 0.0)), 1), ((line, ("struck", None)), 1), ((line, "struck"), 1),
                         ((line, line, ("struck", True)), 2), ((line, (0, "struck")), 1)]:
            self.assertEqual(raised(check_tape, TABLE, tape), invalid(at))
            self.assertIs(is_tape(TABLE, tape, None), False)

    def test_wrong_lines(self):
        line = (0, (1, 2), 0)
        for wrong in [(2, (1, 2), 0), (-1, (1, 2), 0), (0, (1, 2), 2), (0, (1, 2), -1), (0, (2, 4), 0), (0, (1, 2)),
                      (0, (1, 1), 0), (True, (1, 2), 0), (0, (1, 2), False), (0, [1, 2], 0), [0, (1, 2), 0],
                      (0, (1000001, 2), 500000), (0, (1, 1000001), 0), (0, (1, 2), 0, 0), (0, 1, 1)]:
            for before in range(3):
                self.assertEqual(raised(check_tape, TABLE, (line,) * before + (wrong, "more")), invalid(before))
        self.assertIsNone(check_tape(TABLE, ((0, (1000000, 1), 1000000), (0, (-1, 1000000), -1))))

    def test_any_value(self):
        for value in odd_values() + [list(TAPE), 0, (1, 2)]:
            if isinstance(value, tuple) and not value:
                continue
            at = 0 if isinstance(value, tuple) else -1
            self.assertEqual(raised(check_tape, TABLE, value), invalid(at))
            self.assertIs(is_tape(TABLE, value), False)
            self.assertEqual(raised(check_tape, TABLE, (value,)), invalid(0))
            self.assertEqual(raised(check_tape, TABLE, TAPE + (value,)), invalid(4))
        for other in (True, False, None, 1.0, "1", [], Rude(), Yes(), deep_tuple(2000), 10 ** 30, -2):
            for value in with_swapped(TAPE, other):
                self.assertIs(is_tape(TABLE, value, None), False)
        self.assertIsNone(check_tape(value=TAPE, table=TABLE))

    def test_bounds(self):
        rng = random.Random(3)
        seen = set()
        for table in TABLES:
            for _ in range(6):
                tape, _ = random_tape(rng, table, rng.randint(0, 5))
                course = tape_course(table, tape)[1:]
                greatest = max((abs(exact(error)) for errors in course for error in errors), default=Fraction(-1))
                for most in ((1, 1), (1, 2), (1, 3), (2, 1), (3, 2)):
                    self.assertIs(is_tape(table, tape, most), greatest < exact(most))
                    seen.add((most, greatest < exact(most)))
                if greatest > 0:
                    self.assertIs(is_tape(table, tape, told(greatest)), False)
                    self.assertIs(is_tape(table, tape, told(greatest + Fraction(1, 10 ** 9))), True)
                self.assertIs(is_tape(table, tape), greatest < 1)
                self.assertIs(is_tape(table, tape, None), True)
        self.assertEqual(len(seen), 10)

    def test_struck_ones_count_while_they_stand(self):
        one = Table(("cup",), ((0,),))
        tape = ((0, (1, 2), 1), (0, (1, 2), 1), ("struck", 0))
        self.assertIs(is_tape(one, tape), False)
        self.assertIs(is_tape(value=tape, table=one, most=(2, 1)), True)
        self.assertIs(is_tape(one, tape, most=None), True)
        tape = ((0, (1, 2), 1), (0, (1, 2), 0), ("struck", 0), (0, (1, 2), 0))
        self.assertIs(is_tape(one, tape[:3]), True)
        self.assertIs(is_tape(one, tape), False)
        tape = ((0, (1, 2), 1), (0, (1, 2), 0), (0, (1, 2), 1), ("struck", 1))
        self.assertIs(is_tape(one, tape[:3]), True)
        self.assertIs(is_tape(one, tape), False)


if __name__ == "__main__":
    unittest.main()
