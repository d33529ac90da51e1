"""Promise [72]: strikes that are endured."""

import random
import unittest
from fractions import Fraction

from centsatonce.court import court, is_good
from centsatonce.refunds import anew_lines, counted_tape, day_anew, kept_back, last_first_tape
from centsatonce.tables import Table
from centsatonce.tapes import count_strikes, is_last_first, is_tape, tape_course
from centsatonce.window import allowed
from centsatonce.windowdays import is_window_day, window_day
from tests.helpers import NAMES, exact, raised, random_lines, random_tables, told
from tests.test_window import behind, some_blocks

GOOD = [table for table in random_tables(72, 250, most_kinds=5, most_totals=5, sizes=(0, 1, 2, 2, 2)) if is_good(table)]
TABLE = Table(("cup", "tea"), ((0,), (0, 1)))
ORDER = ("Refused", {"word": "order"})


def random_deeds(rng, table, many, last_first=False):
    """Deeds with strikes of lines that stand, perhaps of the last one only."""
    deeds, standing = [], []
    for at in range(many):
        if standing and rng.random() < 0.4:
            index = standing.pop(-1 if last_first else rng.randrange(len(standing)))
            deeds.append(("struck", index))
        else:
            deeds.extend(random_lines(rng, table, 1))
            standing.append(at)
    return tuple(deeds)


def zeros(table):
    return ((0, 1),) * len(table.kinds)


class Anew(unittest.TestCase):

    def test_lines(self):
        rng = random.Random(1)
        for table in GOOD:
            deeds = random_deeds(rng, table, rng.randint(0, 12))
            lines = anew_lines(deeds)
            self.assertEqual(len(lines), len(deeds))
            for deed, line in zip(deeds, lines):
                if deed[0] == "struck":
                    kind, amount = deeds[deed[1]]
                    self.assertEqual(line, (kind, (-amount[0], amount[1])))
                else:
                    self.assertEqual(line, deed)

    def test_days(self):
        rng = random.Random(2)
        seen = set()
        for table in GOOD:
            blocks = some_blocks(rng, table)
            for many in (3, 8, 14):
                deeds = random_deeds(rng, table, many)
                day = day_anew(table, blocks, deeds)
                self.assertIs(is_window_day(table, blocks, day), True)
                lines = anew_lines(deeds)
                wishes = tuple(-day[deed[1]][2] if deed[0] == "struck" else exact(deed[1]).__floor__() for deed in deeds)
                self.assertEqual(day, window_day(table, blocks, lines, wishes))
                back = kept_back(deeds, day)
                strikes = [(at, deed[1]) for at, deed in enumerate(deeds) if deed[0] == "struck"]
                self.assertEqual(back, tuple(day[at][2] + day[struck][2] for at, struck in strikes))
                self.assertTrue(all(one in (-1, 0, 1) for one in back))
                seen |= set(back)
        self.assertEqual(seen, {-1, 0, 1})

    def test_examples(self):
        blocks = court(TABLE)
        deeds = ((0, (1, 2)), ("struck", 0), (1, (7, 2)), (0, (1, 3)), ("struck", 2))
        self.assertEqual(anew_lines(deeds=deeds), ((0, (1, 2)), (0, (-1, 2)), (1, (7, 2)), (0, (1, 3)), (1, (-7, 2))))
        day = day_anew(deeds=deeds, blocks=blocks, table=TABLE)
        self.assertEqual(day[:2], ((0, (1, 2), 0), (0, (-1, 2), 0)))
        self.assertEqual(kept_back(day=day, deeds=deeds), (0, day[4][2] + day[2][2]))
        self.assertEqual((anew_lines(()), day_anew(TABLE, blocks, ()), kept_back((), ())), ((), (), ()))
        # A whole that is struck comes back as it went.
        self.assertEqual(day_anew(TABLE, blocks, ((0, (5, 1)), ("struck", 0))), ((0, (5, 1), 5), (0, (-5, 1), -5)))


class LastFirst(unittest.TestCase):

    def test_least_allowed_of_what_stands(self):
        rng = random.Random(3)
        for table in GOOD:
            blocks = some_blocks(rng, table)
            deeds = random_deeds(rng, table, rng.randint(0, 14), True)
            tape = last_first_tape(table, blocks, deeds)
            self.assertEqual(tuple(item[:2] for item in tape), deeds)
            self.assertIs(is_tape(table, tape), True)
            for at, item in enumerate(tape):
                if item[0] != "struck":
                    struck = {other[1] for other in tape[:at] if other[0] == "struck"}
                    errors = zeros(table)
                    for place, other in enumerate(tape[:at]):
                        if other[0] != "struck" and place not in struck:
                            errors = behind(errors, *other)
                    self.assertEqual(item[2], allowed(table, blocks, errors, item[0], item[1])[0])

    def test_order(self):
        rng = random.Random(4)
        seen = set()
        for table in GOOD:
            deeds = random_deeds(rng, table, rng.randint(0, 8))
            expected = None if is_last_first(deeds) else ORDER
            self.assertEqual(raised(last_first_tape, table, court(table), deeds), expected)
            seen.add(expected is None)
        self.assertEqual(len(seen), 2)
        lines = ((0, (1, 2)), (1, (1, 2)), (0, (1, 2)))
        for strikes, expected in (((2,), None), ((2, 1, 0), None), ((1,), ORDER), ((2, 0), ORDER), ((0,), ORDER)):
            deeds = lines + tuple(("struck", at) for at in strikes)
            self.assertEqual(raised(last_first_tape, TABLE, court(TABLE), deeds), expected)
        self.assertEqual(last_first_tape(deeds=lines + (("struck", 2),), blocks=court(TABLE), table=TABLE),
                         ((0, (1, 2), 0), (1, (1, 2), 1), (0, (1, 2), 1), ("struck", 2)))


class Counted(unittest.TestCase):

    def test_least_allowed_of_all_before(self):
        rng = random.Random(5)
        far = set()
        for table in GOOD:
            blocks = some_blocks(rng, table)
            deeds = random_deeds(rng, table, rng.randint(0, 16))
            tape = counted_tape(table, blocks, deeds)
            self.assertEqual(tuple(item[:2] for item in tape), deeds)
            self.assertIs(is_tape(table, tape, None), True)
            errors = zeros(table)
            for item in tape:
                if item[0] != "struck":
                    self.assertEqual(item[2], allowed(table, blocks, errors, item[0], item[1])[0])
                    errors = behind(errors, *item)
            for many, course in enumerate(tape_course(table, tape)):
                bound = count_strikes(tape[:many]) + 1
                self.assertTrue(all(abs(exact(error)) < bound for error in course))
                far |= {int(abs(exact(error))) for error in course}
        self.assertLessEqual({0, 1}, far)

    def test_examples(self):
        deeds = ((0, (1, 2)), ("struck", 0), (0, (1, 2)), (0, (1, 2)))
        self.assertEqual(counted_tape(deeds=deeds, blocks=court(TABLE), table=TABLE),
                         ((0, (1, 2), 0), ("struck", 0), (0, (1, 2), 1), (0, (1, 2), 0)))
        self.assertEqual(counted_tape(TABLE, court(TABLE), ()), ())

    def test_four_hundred(self):
        rng = random.Random(6)
        line = Table(NAMES, tuple((at, at + 1) for at in range(11)) + ((11,),))
        blocks = court(line)
        for last_first in (True, False):
            deeds = random_deeds(rng, line, 400, last_first)
            deeds = tuple(deed if deed[0] == "struck" else (deed[0], told(Fraction(rng.randint(-10 ** 6, 10 ** 6), 999983)))
                          for deed in deeds)
            day = day_anew(line, blocks, deeds)
            self.assertIs(is_window_day(line, blocks, day), True)
            self.assertLessEqual(set(kept_back(deeds, day)), {-1, 0, 1})
            tape = counted_tape(line, blocks, deeds)
            self.assertIs(is_tape(line, tape, (count_strikes(deeds) + 1, 1)), True)
            if last_first:
                self.assertIs(is_tape(line, last_first_tape(line, blocks, deeds)), True)


if __name__ == "__main__":
    unittest.main()
