"""Promise [74]: how far strikes are endured."""

import random
import unittest
from fractions import Fraction
from itertools import product

from centsatonce.tables import Table
from centsatonce.tapes import check_tape, count_strikes, standing_day, tape_course, tape_errors
from centsatonce.wearing import even_tape, wearing_bound, wearing_deed
from tests.helpers import exact, raised, random_fraction, random_tables, told
from tests.test_tapes import random_tape

TABLES = [table for table in random_tables(74, 150, most_kinds=4, most_totals=3) if table.totals]
TABLE = Table(("cup", "tea"), ((0,), (0, 1)))
ONE = Table(("cup",), ((0,),))
HALF = Fraction(1, 2)
MOST = ("Refused", {"word": "most"})
SIZE = ("Refused", {"word": "size"})


def plain_parts(most, count):
    """The least p, 2 or more, such that most is at most (count + 1/2) (p - 1) / p."""
    edge = count + HALF
    return max(2, (edge / (edge - exact(most))).__ceil__())


def plain_bound(most, count):
    parts = plain_parts(most, count)
    return (3 * parts * exact(most) + parts * (2 * count + 1) + count).__ceil__()


def plain_deed(table, total, most, count, tape):
    """The next deed by the words of the promise, None if there is none."""
    parts, left = plain_parts(most, count), count - sum(item[0] == "struck" for item in tape)
    struck = {item[1] for item in tape if item[0] == "struck"}
    standing = [(at, item) for at, item in enumerate(tape) if item[0] != "struck" and at not in struck
                and item[0] in table.totals[total]]
    error = sum((item[2] - exact(item[1]) for _, item in standing), Fraction(0))
    if abs(error) >= exact(most):
        return None
    small, great = Fraction(1, parts), Fraction(parts - 1, parts)
    ups = [at for at, item in standing if exact(item[1]) == small and item[2] == 1]
    downs = [at for at, item in standing if exact(item[1]) == great and item[2] == 0]
    if len(ups) >= left and error - left * great <= -exact(most):
        return ("struck", ups[-1])
    if len(downs) >= left and error + left * great >= exact(most):
        return ("struck", downs[-1])
    return (min(table.totals[total]), told(great if len(ups) >= left and len(downs) < left else small))


class Even(unittest.TestCase):

    def test_random_deeds(self):
        rng = random.Random(1)
        raised_some = 0
        for table in TABLES:
            for _ in range(6):
                tape, _ = random_tape(rng, table, rng.randint(0, 14))
                deeds = tuple(item[:2] for item in tape)
                total = rng.randrange(len(table.totals))
                found = even_tape(table, total, deeds)
                self.assertIsNone(check_tape(table, found))
                self.assertEqual(tuple(item[:2] for item in found), deeds)
                error = Fraction(0)
                for item in found:
                    if item[0] == "struck":
                        continue
                    floor = exact(item[1]).__floor__()
                    up = item[0] in table.totals[total] and error + floor - exact(item[1]) < -HALF
                    self.assertEqual(item[2], floor + up)
                    raised_some += up
                    if item[0] in table.totals[total]:
                        error += item[2] - exact(item[1])
                self.check_errors(table, total, found)
        self.assertGreater(raised_some, 300)

    def check_errors(self, table, total, tape):
        for many, errors in enumerate(tape_course(table, tape)):
            strikes = count_strikes(tape[:many])
            error = abs(exact(errors[total]))
            self.assertTrue(error <= HALF if strikes == 0 else error < strikes + HALF)

    def test_edges(self):
        # Just -1/2 is not below -1/2.
        self.assertEqual(even_tape(ONE, 0, ((0, (1, 2)),) * 3), ((0, (1, 2), 0), (0, (1, 2), 1), (0, (1, 2), 0)))
        self.assertEqual(even_tape(ONE, 0, ((0, (501, 1000)),)), ((0, (501, 1000), 1),))
        self.assertEqual(even_tape(ONE, 0, ((0, (-1, 3)), (0, (-7, 1)))), ((0, (-1, 3), 0), (0, (-7, 1), -7)))
        self.assertEqual(even_tape(ONE, 0, ()), ())
        empty = Table(("cup",), ((),))
        self.assertEqual(even_tape(empty, 0, ((0, (2, 3)), ("struck", 0))), ((0, (2, 3), 0), ("struck", 0)))

    def test_examples(self):
        deeds = ((0, (1, 3)), (0, (1, 3)), ("struck", 1), (0, (1, 3)))
        tape = ((0, (1, 3), 0), (0, (1, 3), 1), ("struck", 1), (0, (1, 3), 0))
        self.assertEqual(even_tape(TABLE, 0, deeds), tape)
        self.assertEqual(even_tape(deeds=deeds, total=0, table=TABLE), tape)
        self.assertEqual(even_tape(TABLE, 1, ((1, (2, 3)), (0, (2, 3)))), ((1, (2, 3), 1), (0, (2, 3), 0)))

    def test_four_hundred_deeds(self):
        rng = random.Random(2)
        deeds = tuple((0, told(Fraction(rng.randint(-10 ** 6, 10 ** 6), rng.randint(1, 10 ** 6)))) for _ in range(300))
        deeds += tuple(("struck", at) for at in rng.sample(range(300), 100))
        tape = even_tape(ONE, 0, deeds)
        self.assertIsNone(check_tape(ONE, tape))
        self.check_errors(ONE, 0, tape)


class Bounds(unittest.TestCase):

    def test_all_small_fractions(self):
        seen = set()
        for count, bottom in product(range(6), range(1, 13)):
            for top in range(-3, 8 * bottom):
                if Fraction(top, bottom).denominator != bottom:
                    continue
                most = (top, bottom)
                if not 0 < exact(most) < count + HALF:
                    expected = MOST
                else:
                    expected = SIZE if plain_bound(most, count) > 400 else None
                self.assertEqual(raised(wearing_bound, most, count), expected)
                if expected is None:
                    self.assertEqual(wearing_bound(most, count), plain_bound(most, count))
                seen.add(expected and expected[1]["word"])
                self.assertEqual(raised(wearing_deed, ONE, 0, most, count, ()), expected)
        self.assertEqual(seen, {"most", "size", None})

    def test_edges(self):
        for most, count, word in (((1, 2), 0, "most"), ((0, 1), 0, "most"), ((-1, 2), 5, "most"), ((3, 2), 1, "most"),
                                  ((10 ** 30, 1), 7, "most"), ((499999, 10 ** 6), 0, "size"), ((1, 100), 200, "size"),
                                  ((1, 10 ** 40), 0, None), ((10 ** 40 - 1, 2 * 10 ** 40), 0, "size")):
            expected = ("Refused", {"word": word}) if word else None
            self.assertEqual(raised(wearing_bound, most, count), expected)
            self.assertEqual(raised(wearing_deed, ONE, 0, most, count, ()), expected)

    def test_four_hundred(self):
        # 2 (2 count + 1) + count and a bit, with p = 2: 5 count + 3 for the least most.
        self.assertEqual(wearing_bound((1, 1000), 79), 398)
        self.assertEqual(raised(wearing_bound, (1, 1000), 80), SIZE)
        self.assertEqual(wearing_bound((1, 3), 79), 399)
        self.assertEqual(wearing_bound((1, 2), 79), 400)
        self.assertEqual(raised(wearing_bound, (501, 1000), 79), SIZE)

    def test_examples(self):
        self.assertEqual((wearing_bound((1, 1), 1), wearing_deed(TABLE, 0, (1, 1), 1, ())), (19, (0, (1, 3))))
        self.assertEqual(wearing_bound(count=1, most=(1, 1)), 19)
        self.assertEqual(wearing_deed(tape=(), count=1, most=(1, 1), total=0, table=TABLE), (0, (1, 3)))


class Wearing(unittest.TestCase):

    def test_all_ways(self):
        for most, count in (((1, 4), 0), ((1, 3), 0), ((2, 5), 0), ((49, 100), 0), ((1, 1), 1), ((1, 2), 1), ((7, 5), 1),
                            ((1, 1), 2), ((3, 2), 2), ((2, 1), 2), ((9, 4), 2), ((5, 2), 3), ((3, 1), 3), ((7, 2), 4)):
            known = {}
            longest = self.longest_from(most, count, (), known)
            self.assertLessEqual(longest, wearing_bound(most, count))
            self.assertGreater(longest, 0)

    def longest_from(self, most, count, tape, known):
        """The greatest number of deeds from a tape on; what stands tells it, and the strikes that are left."""
        key = (count_strikes(tape), tuple(sorted(standing_day(tape))))
        if key not in known:
            deed = wearing_deed(ONE, 0, most, count, tape)
            self.assertEqual(deed, plain_deed(ONE, 0, most, count, tape))
            if deed is None:
                self.assertGreaterEqual(abs(exact(tape_errors(ONE, tape)[0])), exact(most))
                known[key] = 0
            else:
                ahead = [deed] if deed[0] == "struck" else [deed + (whole,) for whole in (0, 1)]
                known[key] = 1 + max(self.longest_from(most, count, tape + (item,), known) for item in ahead)
        return known[key]

    def test_random_rounding(self):
        rng = random.Random(3)
        table = Table(("bun", "cup", "tea"), ((1, 2), (0,)))
        for most, count in (((1, 1), 1), ((5, 2), 3), ((11, 2), 6), ((5, 1), 7), ((8, 1), 10), ((10, 1), 40)):
            bound = wearing_bound(most, count)
            for bias in (0.0, 0.5, 0.9, 1.0):
                tape = ()
                while (deed := wearing_deed(table, 0, most, count, tape)) is not None:
                    self.assertEqual(deed, plain_deed(table, 0, most, count, tape))
                    tape += (deed if deed[0] == "struck" else deed + (int(rng.random() < bias),),)
                    self.assertLessEqual(len(tape), bound)
                self.assertIsNone(check_tape(table, tape))
                self.assertLessEqual(count_strikes(tape), count)
                self.assertGreaterEqual(abs(exact(tape_errors(table, tape)[0])), exact(most))

    def test_whoever_keeps_near_nothing(self):
        # Rounded so that the error of all lines stays near 0, as even_tape does.
        for most, count in (((1, 1), 1), ((2, 1), 2), ((7, 2), 4), ((11, 2), 6)):
            tape = ()
            while (deed := wearing_deed(ONE, 0, most, count, tape)) is not None:
                deeds = tuple(item[:2] for item in tape) + (deed,)
                tape = even_tape(ONE, 0, deeds)
            self.assertLessEqual(len(tape), wearing_bound(most, count))
            self.assertLess(exact(most), count + HALF)

    def test_any_tapes(self):
        rng = random.Random(4)
        seen = {}
        for table in TABLES:
            totals = [total for total, kinds in enumerate(table.totals) if kinds]
            for _ in range(8):
                if not totals:
                    continue
                total, count = rng.choice(totals), rng.randint(0, 4)
                most = told(Fraction(rng.randint(1, 8 * count + 3), 8))
                if plain_bound(most, count) > 400:
                    continue
                tape = self.some_tape(rng, table, plain_parts(most, count), count)
                deed = wearing_deed(table, total, most, count, tape)
                self.assertEqual(deed, plain_deed(table, total, most, count, tape))
                word = deed and (deed[0] if deed[0] == "struck" else deed[1] == (1, plain_parts(most, count)))
                seen[word] = seen.get(word, 0) + 1
        self.assertEqual(set(seen), {None, "struck", True, False})
        self.assertGreater(min(seen.values()), 10)

    def some_tape(self, rng, table, parts, count):
        """A tape of lines like those that come, and others, with at most so many strikes."""
        tape, standing = [], []
        for at in range(rng.randint(0, 9)):
            if standing and rng.random() < 0.2 and count_strikes(tape) < count:
                tape.append(("struck", standing.pop(rng.randrange(len(standing)))))
                continue
            amount = rng.choice(((1, parts), (1, parts), told(Fraction(parts - 1, parts)), random_fraction(rng, 3)))
            whole = exact(amount).__floor__() + (rng.randint(0, 1) if amount[1] > 1 else 0)
            tape.append((rng.randrange(len(table.kinds)), amount, whole))
            standing.append(at)
        return tuple(tape)


if __name__ == "__main__":
    unittest.main()
