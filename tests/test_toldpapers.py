"""Promise [46]: papers of told sequences."""

import random
import unittest
from fractions import Fraction

from centsatonce.holding import can_hold
from centsatonce.sequences import closures_back, is_kept
from centsatonce.tables import Table, class_numbers
from centsatonce.toldpapers import BeatenPaper, ToldPaper, UnheldPaper, is_beaten_paper, is_told_paper, is_unheld_paper
from centsatonce.toldpapers import told_paper, unheld_paper
from tests.helpers import NAMES, OTHERS, exact, odd_objects, odd_values, plain_classes, plain_totals, raised, random_tables
from tests.helpers import swapped_objects, told
from tests.test_holding import met_errors
from tests.test_sequences import plain_closures, random_sequence
from tests.test_spoils import ring_table

TABLES = random_tables(46, 150, most_kinds=5, most_totals=5, sizes=(0, 1, 2, 2, 3, 4), least_kinds=2)
TABLES += random_tables(47, 80, most_kinds=4, most_totals=5, sizes=(2, 2, 3), least_kinds=3)
TABLE = Table(("x", "y", "z"), ((0, 1, 2), (0, 2), (1, 2)))
LINE = Table(NAMES, tuple((at, at + 1) for at in range(11)) + ((11,),))
LOST = ("Refused", {"word": "lost"})


def classes_along(table, sequence):
    classes = plain_classes(table)
    return [next((at for at, kinds in enumerate(classes) if kind in kinds), None) for kind in sequence]


def base_of(table):
    return [tuple(int(number in total) for number in range(len(plain_classes(table)))) for total in plain_totals(table)]


def is_plain_told(table, sequence, lots):
    """Whether lots of well formed reckonings are a right ToldPaper, by the words of the promise."""
    own = classes_along(table, sequence)

    def cut(one, place):
        return tuple(entry if number in own[:place] else 0 for number, entry in enumerate(one))

    if len(lots) != len(own) + 1:
        return False
    base = base_of(table) + [tuple(-entry for entry in one) for one in base_of(table)]
    needed = [{cut(one, len(own)) for one in base}]
    for at in range(len(own)):
        found = set(lots[at + 1])
        ones = [one for one in found if own[at] is not None and one[own[at]] == 1]
        found |= {tuple(a - b for a, b in zip(one, other)) for one in ones for other in ones}
        needed.insert(at, {cut(one, at) for one in found})
    for place, lot in enumerate(lots):
        if list(lot) != sorted(set(lot)) or any(not any(one) or cut(one, place) != one for one in lot):
            return False
        if any(abs(entry) > 1 for one in lot for entry in one):
            return False
        if any(tuple(-entry for entry in one) not in lot for one in lot):
            return False
        if not {one for one in needed[place] if any(one)} <= set(lot):
            return False
    return True


def plain_steps(table, sequence, steps):
    """The pairs of reckoning and hold of well formed steps, None if they are not right."""
    own = classes_along(table, sequence)
    facts = []
    for step in steps:
        if step[0] == "total":
            facts.append((tuple(step[2] * entry for entry in base_of(table)[step[1]]), len(own)))
            continue
        _, line, one, other = step
        if max(one, other) >= len(facts) or own[line] is None:
            return None
        for part in (one, other):
            if facts[part][0][own[line]] != 1 or facts[part][1] <= line:
                return None
        facts.append((tuple(a - b for a, b in zip(facts[one][0], facts[other][0])), line))
    return facts


def is_plain_beaten(table, sequence, line, steps):
    facts = plain_steps(table, sequence, steps)
    number = classes_along(table, sequence)[line]
    return facts is not None and number is not None and facts[-1][1] > line and abs(facts[-1][0][number]) > 1


def is_plain_unheld(table, sequence, place, errors, steps):
    facts = plain_steps(table, sequence, steps)
    if facts is None or facts[-1][1] < place:
        return False
    own = [sum((exact(errors[kind]) for kind in kinds), Fraction(0)) for kinds in plain_classes(table)]
    return abs(sum(entry * error for entry, error in zip(facts[-1][0], own))) >= 1


def random_steps(rng, table, sequence, many):
    """Well formed steps, right ones most often."""
    own, facts, steps = classes_along(table, sequence), [], []
    for _ in range(many):
        pairs = [(line, one, other) for line in range(len(own)) if own[line] is not None
                 for one in range(len(facts)) for other in range(len(facts))
                 if all(facts[part][0][own[line]] == 1 and facts[part][1] > line for part in (one, other))]
        if pairs and rng.random() < 0.6:
            step = ("less",) + rng.choice(pairs)
        elif len(facts) > 1 and sequence and rng.random() < 0.05:
            step = ("less", rng.randrange(len(own)), rng.randrange(len(facts)), rng.randrange(len(facts)))
        else:
            step = ("total", rng.randrange(len(table.totals)), rng.choice((1, -1)))
        steps.append(step)
        facts = plain_steps(table, sequence, steps)
        if facts is None:
            break
    return tuple(steps)


def spoilt_lots(rng, table, sequence, lots):
    """Lots with one reckoning less, or one, alone or with its opposite, more."""
    place = rng.randrange(len(lots))
    lot = set(lots[place])
    more = tuple(rng.choice((-1, 0, 0, 1)) for _ in plain_classes(table))
    word = rng.choice(("less", "less pair", "more", "more pair", "cut pair"))
    if word.startswith("less") and lot:
        gone = rng.choice(sorted(lot))
        lot -= {gone} if word == "less" else {gone, tuple(-entry for entry in gone)}
    else:
        if word == "cut pair":
            met = set(classes_along(table, sequence)[:place])
            more = tuple(entry if number in met else 0 for number, entry in enumerate(more))
        lot |= {more} if word == "more" else {more, tuple(-entry for entry in more)}
    return lots[:place] + (tuple(sorted(lot)),) + lots[place + 1:]


class Told(unittest.TestCase):

    def test_one_of_both(self):
        rng = random.Random(1)
        seen = {True: 0, False: 0}
        for table in TABLES:
            for _ in range(8):
                sequence = random_sequence(rng, table, 8)
                paper = told_paper(table, sequence)
                kept = plain_closures(table, sequence) is not None
                self.assertIs(isinstance(paper, ToldPaper), kept)
                self.assertIs(is_told_paper(table, sequence, paper), kept)
                self.assertIs(is_beaten_paper(table, sequence, paper), not kept)
                if kept:
                    self.assertTrue(is_plain_told(table, sequence, paper.lots))
                    self.assertEqual(paper.lots, closures_back(table, sequence))
                else:
                    self.assertTrue(is_plain_beaten(table, sequence, paper.line, paper.steps))
                seen[kept] += 1
        self.assertGreater(min(seen.values()), 100)

    def test_never_both(self):
        # Whatever papers are drawn, those that are right are of the one form that the sequence allows.
        rng = random.Random(2)
        seen = {}
        for table in [table for table in TABLES if table.totals]:
            sequence = random_sequence(rng, table, 6)
            kept = plain_closures(table, sequence) is not None
            drawn = [random_steps(rng, table, sequence, rng.randint(1, 9)) for _ in range(10)]
            if not kept:
                steps = told_paper(table, sequence).steps
                drawn += [steps, (("total", 0, 1),) + steps, steps[:-1] + (("total", 0, 1),), steps[:-1] + steps[-2:]]
            for steps in drawn:
                for line in range(len(sequence)):
                    right = is_plain_beaten(table, sequence, line, steps)
                    self.assertIs(is_beaten_paper(table, sequence, BeatenPaper(line, steps)), right)
                    self.assertFalse(right and kept)
                    seen["beaten", right] = seen.get(("beaten", right), 0) + 1
            lots = plain_closures(table, sequence) or ((),) * (len(sequence) + 1)
            for _ in range(16):
                spoilt = lots
                for _ in range(rng.randint(1, 3)):
                    spoilt = spoilt_lots(rng, table, sequence, spoilt)
                right = is_plain_told(table, sequence, spoilt)
                self.assertIs(is_told_paper(table, sequence, ToldPaper(spoilt)), right)
                self.assertFalse(right and not kept)
                seen["told", right] = seen.get(("told", right), 0) + 1
        self.assertEqual(len(seen), 4)
        self.assertGreater(min(seen.values()), 25, seen)

    def test_may_have_more(self):
        one = Table(("a", "b"), ((0,), (1,)))
        more = ((-1, -1), (-1, 0), (0, -1), (0, 1), (1, 0), (1, 1))
        self.assertIs(is_told_paper(one, (), ToldPaper(((),))), True)
        self.assertIs(is_told_paper(one, (), ToldPaper((((-1, 0), (1, 0)),))), False)
        self.assertIs(is_told_paper(one, (0, 1), ToldPaper(((), ((-1, 0), (1, 0)), more))), True)
        self.assertIs(is_told_paper(one, (0, 1), ToldPaper(((), ((-1, 0), (1, 0)), more[1:-1]))), True)
        self.assertIs(is_told_paper(one, (0, 1), ToldPaper(((), (), more))), False)
        self.assertIs(is_told_paper(one, (0, 1), ToldPaper(((), ((-1, 0), (1, 0)), more[:-1]))), False)
        self.assertIs(is_told_paper(one, (0, 1), ToldPaper(((), ((-1, 0), (1, 0)), ((0, -1), (0, 1))))), False)
        # With (1, 1) and (1, -1) their difference would be due, too, which is beyond.
        whole = tuple(sorted(more + ((1, -1), (-1, 1))))
        self.assertIs(is_told_paper(one, (0, 1), ToldPaper(((), ((-1, 0), (1, 0)), whole))), False)
        self.assertIs(is_told_paper(one, (1, 0), ToldPaper(((), ((0, -1), (0, 1)), whole))), False)

    def test_lots_that_are_none(self):
        one = Table(("a", "b"), ((0,), (1,)))
        for lot, right in ((((-1, 0), (1, 0)), True), (((1, 0), (-1, 0)), False), (((-1, 0), (-1, 0), (1, 0)), False),
                           (((-2, 0), (-1, 0), (1, 0), (2, 0)), False), (((-1, 0), (0, 0), (1, 0)), False),
                           (((-1, 0), (1, 0), (1, 1)), False), (((-1, 0),), False), (((-1, 0), (1, 0), (0, 0)), False)):
            self.assertIs(is_told_paper(one, (0,), ToldPaper(((), lot))), right)

    def test_what_does_not_hold_behind_the_line(self):
        # The same steps, told for a later line of the class.
        many = 0
        rng = random.Random(8)
        for table in TABLES:
            sequence = random_sequence(rng, table, 8)
            paper = told_paper(table, sequence)
            if isinstance(paper, BeatenPaper):
                hold = plain_steps(table, sequence, paper.steps)[-1][1]
                longer = sequence[:hold] + (sequence[paper.line],) + sequence[hold:]
                moved = tuple(step if step[0] == "total" else (step[0], step[1] + (step[1] >= hold)) + step[2:]
                              for step in paper.steps)
                self.assertIs(is_beaten_paper(table, longer, BeatenPaper(paper.line, moved)), True)
                self.assertIs(is_beaten_paper(table, longer, BeatenPaper(hold, moved)), True)
                later = sequence + (sequence[paper.line],)
                self.assertIs(is_beaten_paper(table, later, paper), True)
                self.assertIs(is_beaten_paper(table, later, BeatenPaper(len(sequence), paper.steps)), False)
                many += 1
        self.assertGreater(many, 5)

    def test_examples(self):
        paper = told_paper(sequence=(1, 0, 2), table=TABLE)
        self.assertIsInstance(paper, BeatenPaper)
        self.assertIs(is_beaten_paper(value=paper, sequence=(1, 0, 2), table=TABLE), True)
        self.assertIs(is_beaten_paper(TABLE, (0, 2, 1), paper), False)
        paper = told_paper(TABLE, (0, 2, 1))
        self.assertEqual(paper.lots, closures_back(TABLE, (0, 2, 1)))
        self.assertIs(is_told_paper(value=paper, sequence=(0, 2, 1), table=TABLE), True)
        for sequence in ((0, 2), (0, 2, 1, 1), (0, 1, 2), (2, 0, 1), ()):
            self.assertIs(is_told_paper(TABLE, sequence, paper), False)
        self.assertIs(is_told_paper(Table(("a",), ()), (0,), ToldPaper(lots=((), ()))), True)
        ring = ring_table(3)
        steps = (("total", 0, 1), ("total", 1, 1), ("less", 2, 1, 1), ("less", 1, 0, 1), ("total", 2, 1), ("less", 2, 4, 1))
        self.assertIs(is_beaten_paper(ring, (0, 1, 2), BeatenPaper(line=0, steps=steps)), False)
        self.assertEqual(raised(BeatenPaper, 1, 2), None)
        self.assertEqual((BeatenPaper(1, 2).line, BeatenPaper(1, 2).steps, UnheldPaper(steps=3).steps), (1, 2, 3))

    def test_steps_may_go_beyond_and_hold_from_their_lines_on(self):
        ring = ring_table(3)
        # (0, 1) less (0, 2) at the line of 0, with (1, 2) at that of 1: 2 at 2.
        steps = (("total", 2, 1), ("total", 0, 1), ("less", 0, 0, 1), ("total", 1, 1))
        for sequence, line, right in (((2, 1, 0), 0, True), ((2, 1, 0), 1, False), ((2, 1, 0), 2, False),
                                      ((1, 2, 0), 0, False), ((2, 0, 1), 0, False)):
            last = sequence.index(0)
            told_steps = steps[:2] + (("less", last, 0, 1),) + steps[3:]
            # -x1 + x2, and x1 + x2 with the opposite of the first one at the line of 1.
            turned = (("total", 2, -1), ("total", 0, -1), ("total", 0, 1), ("total", 2, 1), ("less", last, 2, 3),
                      ("total", 1, 1), ("less", sequence.index(1), 5, 4))
            self.assertIs(is_beaten_paper(ring, sequence, BeatenPaper(line, turned)),
                          is_plain_beaten(ring, sequence, line, turned))
            self.assertIs(is_beaten_paper(ring, sequence, BeatenPaper(line, turned)), right)
            self.assertIs(is_beaten_paper(ring, sequence, BeatenPaper(line, told_steps)), False)

    def test_long_sequences(self):
        rng = random.Random(3)
        for table, sequence, kept in (
                (LINE, tuple(rng.randrange(12) for _ in range(400)), True), (TABLE, (0, 2, 1) * 133 + (0,), False),
                (ring_table(11), tuple(range(11)) * 36, False), (ring_table(3), (0, 1) * 199 + (2, 0), False),
                (ring_table(3), (0, 1) * 200, True), (TABLE, (0,) * 200 + (2,) * 100 + (1,) * 100, True)):
            paper = told_paper(table, sequence)
            self.assertIs(is_told_paper(table, sequence, paper), kept)
            self.assertIs(is_beaten_paper(table, sequence, paper), not kept)
            if kept:
                self.assertTrue(is_plain_told(table, sequence, paper.lots))
                short = paper.lots[:200] + paper.lots[201:]
                self.assertIs(is_told_paper(table, sequence, ToldPaper(short)), False)
            else:
                self.assertTrue(is_plain_beaten(table, sequence, paper.line, paper.steps))


class Unheld(unittest.TestCase):

    def test_held_or_not(self):
        rng = random.Random(4)
        seen = {True: 0, False: 0}
        for table in TABLES:
            for _ in range(4):
                sequence = random_sequence(rng, table, 7)
                place = rng.randint(0, len(sequence))
                errors = met_errors(rng, table, sequence, place, rng.choice((1, 2, 4)))
                if not is_kept(table, sequence):
                    self.assertEqual(raised(unheld_paper, table, sequence, place, errors), LOST)
                    continue
                paper = unheld_paper(table, sequence, place, errors)
                held = can_hold(table, sequence, place, errors)
                self.assertIs(paper is None, held)
                self.assertIs(is_unheld_paper(table, sequence, place, errors, paper), not held)
                if not held:
                    self.assertIsInstance(paper, UnheldPaper)
                    self.assertTrue(is_plain_unheld(table, sequence, place, errors, paper.steps))
                seen[held] += 1
        self.assertGreater(min(seen.values()), 100)

    def test_drawn_papers(self):
        rng = random.Random(5)
        seen = {True: 0, False: 0}
        for table in [table for table in TABLES if table.totals]:
            sequence = random_sequence(rng, table, 6)
            place = rng.randint(0, len(sequence))
            errors = met_errors(rng, table, sequence, place, 2)
            kept = is_kept(table, sequence)
            for _ in range(12):
                steps = random_steps(rng, table, sequence, rng.randint(1, 7))
                right = is_plain_unheld(table, sequence, place, errors, steps)
                self.assertIs(is_unheld_paper(table, sequence, place, errors, UnheldPaper(steps)), right)
                if kept and right:
                    self.assertIs(can_hold(table, sequence, place, errors), False)
                seen[right] += 1
        self.assertGreater(min(seen.values()), 100)

    def test_edges(self):
        one = Table(("cup",), ((0,),))
        for errors, held in ((((1, 1),), False), (((-1, 1),), False), (((999, 1000),), True), (((10 ** 900, 1),), False)):
            for place in (1, 2):
                self.assertIs(unheld_paper(one, (0, 0), place, errors) is None, held)
                self.assertIs(is_unheld_paper(one, (0, 0), place, errors, UnheldPaper((("total", 0, -1),))), not held)
        two = Table(("a", "b"), ((0,), (0, 1)))
        steps = (("total", 0, 1), ("total", 1, 1), ("less", 1, 0, 1))
        errors = ((0, 1), (-3, 2))
        self.assertIs(is_unheld_paper(table=two, sequence=(1, 0), place=1, errors=errors, value=UnheldPaper(steps)), True)
        self.assertIs(is_unheld_paper(two, (1, 0), 2, errors, UnheldPaper(steps)), False)
        self.assertIs(is_unheld_paper(two, (1, 0, 1), 2, errors, UnheldPaper(steps)), False)
        # The sequence need not be one that can be kept.
        self.assertIs(is_unheld_paper(TABLE, (1, 0, 2), 1, ((0, 1), (1, 1), (0, 1)), UnheldPaper((("total", 0, 1),))), True)
        self.assertEqual(raised(unheld_paper, errors=((0, 1),) * 3, place=0, sequence=(1, 0, 2), table=TABLE), LOST)

    def test_very_long_errors(self):
        rng = random.Random(6)
        bottom = 10 ** 3999 + 7
        errors = tuple(told(Fraction(rng.randint(0, bottom // 3), bottom)) for _ in range(12))
        sequence = tuple(range(12)) * 2
        self.assertIsNone(unheld_paper(LINE, sequence, 24, errors))
        for errors in ((told(exact(errors[0]) + 1),) + errors[1:], errors[:11] + ((-bottom, bottom - 1),)):
            paper = unheld_paper(LINE, sequence, 24, errors)
            self.assertIs(is_unheld_paper(LINE, sequence, 24, errors, paper), True)

    def test_long_sequences(self):
        rng = random.Random(7)
        sequence = tuple(rng.randrange(12) for _ in range(400))
        for place in (0, 1, 200, 399, 400):
            errors = met_errors(rng, LINE, sequence, place, 3)
            paper = unheld_paper(LINE, sequence, place, errors)
            self.assertIs(paper is None, can_hold(LINE, sequence, place, errors))
            self.assertIs(is_unheld_paper(LINE, sequence, place, errors, paper), paper is not None)


class AnyValue(unittest.TestCase):

    def check(self, value, wanted=False):
        self.assertIs(is_told_paper(TABLE, (0, 2, 1), value), wanted)
        self.assertIs(is_beaten_paper(TABLE, (1, 0, 2), value), wanted)
        self.assertIs(is_unheld_paper(TABLE, (0, 2, 1), 2, ((0, 1), (0, 1), (3, 2)), value), wanted)

    def test_other_values(self):
        for value in odd_values() + odd_objects(ToldPaper, 1) + odd_objects(BeatenPaper, 2) + odd_objects(UnheldPaper, 1):
            self.check(value)
            self.check(ToldPaper((value,) * 4))
            self.check(ToldPaper(((value,),) * 4))
            self.check(BeatenPaper(0, (value,)))
            self.check(UnheldPaper((value,)))

    def test_spoilt_at_any_place(self):
        kept, lost = told_paper(TABLE, (0, 2, 1)), told_paper(TABLE, (1, 0, 2))
        errors = ((0, 1), (0, 1), (3, 2))
        unheld = UnheldPaper((("total", 0, 1), ("total", 1, 1), ("less", 2, 0, 0), ("total", 2, 1)))
        self.assertIs(is_unheld_paper(TABLE, (0, 2, 1), 2, errors, unheld), True)
        for other in OTHERS:
            for value in swapped_objects(ToldPaper, (kept.lots,), other):
                right = is_well_formed(value.lots) and is_plain_told(TABLE, (0, 2, 1), value.lots)
                self.assertIs(is_told_paper(TABLE, (0, 2, 1), value), right)
            for value in swapped_objects(BeatenPaper, (lost.line, lost.steps), other):
                self.assertIs(is_beaten_paper(TABLE, (1, 0, 2), value), self.is_right(lost, value))
            for value in swapped_objects(UnheldPaper, (unheld.steps,), other):
                found = is_unheld_paper(TABLE, (0, 2, 1), 2, errors, value)
                self.assertIs(found, self.is_right_unheld(errors, value))

    def is_right(self, lost, value):
        """Whether swapping an item for -1, the only one that may do, left a right paper."""
        if type(value.line) is not int or not 0 <= value.line < 3 or not are_well_formed_steps(value.steps):
            return False
        return is_plain_beaten(TABLE, (1, 0, 2), value.line, value.steps)

    def is_right_unheld(self, errors, value):
        return are_well_formed_steps(value.steps) and is_plain_unheld(TABLE, (0, 2, 1), 2, errors, value.steps)


def is_well_formed(lots):
    """Whether lots are tuples of tuples of three integers."""
    if type(lots) is not tuple:
        return False
    for lot in lots:
        if type(lot) is not tuple:
            return False
        for one in lot:
            if type(one) is not tuple or len(one) != 3 or any(type(entry) is not int for entry in one):
                return False
    return True


def are_well_formed_steps(steps):
    """Whether steps have the right words and numbers of things that are there."""
    if type(steps) is not tuple or not steps:
        return False
    for step in steps:
        if type(step) is not tuple or not step or type(step[0]) is not str:
            return False
        if any(type(item) is not int for item in step[1:]):
            return False
        if step[0] == "total":
            if len(step) != 3 or not 0 <= step[1] < 3 or step[2] not in (1, -1):
                return False
        elif step[0] != "less" or len(step) != 4 or not 0 <= step[1] < 3 or min(step[2:]) < 0:
            return False
    return True


if __name__ == "__main__":
    unittest.main()
