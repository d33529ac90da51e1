"""Promise [39]: attacks along a derivation."""

import random
import unittest

from centsatonce.attacks import count_lines, height_of, is_attack, is_attack_from
from centsatonce.derivations import derived_by
from centsatonce.forcing import attack_along, depths_of
from centsatonce.levels import least_beyond
from centsatonce.reckonings import is_beyond
from centsatonce.tables import Table
from tests.helpers import random_fraction, raised
from tests.test_derivations import random_derivation
from tests.test_pressing import RING, STEPS, TABLES, bad_derivations, values_of

ZEROS = ((0, 1),) * 3


def plain_depth(derivation, at):
    step = derivation[at]
    return 0 if step[0] == "total" else 1 + max(plain_depth(derivation, step[2]), plain_depth(derivation, step[3]))


class Depths(unittest.TestCase):

    def test_depths(self):
        rng = random.Random(1)
        for table in TABLES:
            derivation = random_derivation(rng, table, rng.randint(1, 9))
            self.assertEqual(depths_of(derivation), tuple(plain_depth(derivation, at) for at in range(len(derivation))))
        self.assertEqual(depths_of(derivation=STEPS), (0, 0, 1, 0, 2))
        chain = (("total", 0, 1),) + tuple(("less", 0, 0, at) for at in range(300))
        self.assertEqual(depths_of(chain), tuple(range(301)))


class Attacks(unittest.TestCase):

    def check(self, table, errors, derivation):
        depths = depths_of(derivation)
        values = values_of(table, derivation, errors)
        off = [depth for depth, value in zip(depths, values) if abs(value) >= 1]
        if max(depths) > 6:
            self.assertEqual(raised(attack_along, table, errors, derivation), ("Refused", {"word": "depth"}))
            return "depth"
        if not off and not is_beyond(derived_by(table, derivation)):
            self.assertEqual(raised(attack_along, table, errors, derivation), ("Refused", {"word": "derivation"}))
            return "derivation"
        attack = attack_along(table, errors, derivation)
        self.assertIs(is_attack_from(table, errors, attack), True)
        self.assertLessEqual(height_of(attack), min(off) if off else depths[-1] + 1)
        return "off" if off else "beyond"

    def test_random_derivations(self):
        rng = random.Random(2)
        seen = {}
        for table in TABLES:
            for _ in range(6):
                derivation = random_derivation(rng, table, rng.randint(1, 9))
                errors = tuple(random_fraction(rng, rng.choice((1, 2, 3)), (2, 3, 5, 7)) for _ in table.kinds)
                word = self.check(table, errors, derivation)
                seen[word] = seen.get(word, 0) + 1
        for table, derivation in bad_derivations():
            for size in (0, 1, 1, 1, 2):
                errors = tuple(random_fraction(rng, size, (3, 5, 7)) for _ in table.kinds)
                word = self.check(table, errors, derivation)
                seen[word] = seen.get(word, 0) + 1
        self.assertLessEqual({"derivation", "off", "beyond"}, set(seen))
        self.assertGreater(min(seen[word] for word in ("derivation", "off", "beyond")), 50)

    def test_depths_of_six_and_seven(self):
        table = Table(("a", "b", "c", "d"), ((0, 1), (1, 2), (2, 3), (0, 3)))
        # 0 at all classes, but of any depth; then steps that are deep and lead somewhere.
        for depth, word in ((5, None), (6, None), (7, "depth"), (8, "depth")):
            steps = [("total", 0, 1), ("total", 1, 1)]
            for at in range(depth):
                steps.append(("less", (1, 0)[at % 2], 0, len(steps) - 1))
            steps = tuple(steps)
            self.assertEqual(max(depths_of(steps)), depth)
            errors = ((3, 4), (1, 4), (-3, 4), (0, 1))
            if word:
                self.assertEqual(raised(attack_along, table, errors, steps), ("Refused", {"word": word}))
                self.assertEqual(raised(attack_along, table, ((0, 1),) * 4, steps), ("Refused", {"word": word}))
            else:
                self.assertIs(is_attack_from(table, errors, attack_along(table, errors, steps)), True)
                self.assertEqual(raised(attack_along, table, ((0, 1),) * 4, steps), ("Refused", {"word": "derivation"}))

    def test_the_depth_of_what_is_beyond(self):
        # (0, 1, 1) and (1, 0, -1) by turns, each 1 deeper, and in the end (0, 0, 2) or (-2, 0, 0).
        for depth in range(2, 8):
            steps = [("total", 0, 1), ("total", 1, 1), ("total", 2, 1)]
            last = 1
            for at in range(depth - 1):
                steps.append(("less", (1, 0)[at % 2], 0, last))
                last = len(steps) - 1
            steps.append(("less", 0, 2, last) if depth % 2 == 0 else ("less", 2, 2, last))
            steps = tuple(steps)
            self.assertEqual(depths_of(steps)[-1], depth)
            if depth % 2 == 0:
                self.assertEqual(derived_by(RING, steps), (0, 0, 2))
            if not is_beyond(derived_by(RING, steps)):
                continue
            if depth > 6:
                self.assertEqual(raised(attack_along, RING, ZEROS, steps), ("Refused", {"word": "depth"}))
            else:
                attack = attack_along(RING, ZEROS, steps)
                self.assertIs(is_attack(RING, attack), True)
                self.assertLessEqual(height_of(attack), depth + 1)
                self.assertLessEqual(count_lines(attack), 150)

    def test_examples(self):
        attack = attack_along(derivation=STEPS, errors=ZEROS, table=RING)
        self.assertIs(is_attack(RING, attack), True)
        self.assertEqual(height_of(attack), 3)
        self.assertEqual(attack_along(RING, ((1, 2), (1, 2), (0, 1)), STEPS), ("off", 0))
        self.assertEqual(height_of(attack_along(RING, ((1, 2), (0, 1), (-1, 2)), STEPS)), 1)
        self.assertEqual(raised(attack_along, RING, ZEROS, STEPS[:4]), ("Refused", {"word": "derivation"}))

    def test_long_errors(self):
        rng = random.Random(4)
        for table in TABLES[:30]:
            derivation = least_beyond(table)
            if derivation is None or max(depths_of(derivation)) > 6:
                continue
            errors = tuple(random_fraction(rng, 10 ** 300, (3 * 10 ** 300 + 1, 7 * 10 ** 301)) for _ in table.kinds)
            self.check(table, errors, derivation)


if __name__ == "__main__":
    unittest.main()
