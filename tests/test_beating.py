"""Promise [47]: amounts by which told sequences are beaten."""

import random
import unittest
from fractions import Fraction

from centsatonce.beating import beating_amount
from centsatonce.days import choices
from centsatonce.numbers import is_fraction
from centsatonce.sequences import is_kept
from centsatonce.tables import Table, class_numbers
from centsatonce.toldpapers import BeatenPaper, UnheldPaper, is_beaten_paper, is_unheld_paper, told_paper, unheld_paper
from tests.helpers import NAMES, exact, plain_classes, plain_totals, random_tables, told
from tests.test_holding import behind, met_errors
from tests.test_sequences import random_sequence
from tests.test_spoils import ring_table
from tests.test_toldpapers import LINE, random_steps

TABLES = random_tables(147, 100, most_kinds=5, most_totals=5, sizes=(0, 1, 2, 2, 3, 4), least_kinds=2)
TABLES += random_tables(148, 100, most_kinds=4, most_totals=5, sizes=(2, 2, 3), least_kinds=3)
TABLE = Table(("x", "y", "z"), ((0, 1, 2), (0, 2), (1, 2)))


def is_off_in_the_end(table, errors):
    own = [sum((exact(errors[kind]) for kind in kinds), Fraction(0)) for kinds in plain_classes(table)]
    return any(abs(sum(own[number] for number in total)) >= 1 for total in plain_totals(table))


class Beating(unittest.TestCase):

    def play_all(self, table, sequence, paper, place, errors):
        """Try all roundings from a place on; how many ends there are."""
        if place == len(sequence):
            self.assertTrue(is_off_in_the_end(table, errors))
            return 1
        amount = beating_amount(table, sequence, paper, place, errors)
        self.assertIs(is_fraction(amount), True)
        return sum(self.play_all(table, sequence, paper, place + 1, behind(errors, sequence[place], amount, whole))
                   for whole in choices(amount))

    def play_some(self, rng, table, sequence, paper, place, errors):
        """Round by chance from a place on."""
        while place < len(sequence):
            amount = beating_amount(table, sequence, paper, place, errors)
            errors = behind(errors, sequence[place], amount, rng.choice(choices(amount)))
            place += 1
        self.assertTrue(is_off_in_the_end(table, errors))

    def test_beaten_from_any_errors(self):
        rng = random.Random(1)
        many = ends = 0
        for table in TABLES:
            for _ in range(6):
                sequence = random_sequence(rng, table, 8)
                if is_kept(table, sequence):
                    continue
                paper = told_paper(table, sequence)
                for size in (0, 1, 3):
                    place = rng.randint(0, paper.line)
                    errors = met_errors(rng, table, sequence, place, size)
                    ends += self.play_all(table, sequence, paper, place, errors)
                many += 1
        self.assertGreater(many, 50)
        self.assertGreater(ends, 1000)

    def test_all_places_up_to_the_line(self):
        rng = random.Random(2)
        for sequence in ((1, 0, 2), (0, 1, 0, 2), (1, 1, 0, 0, 2, 2)):
            paper = told_paper(TABLE, sequence)
            for place in range(paper.line + 1):
                for size in (0, 1, 2, 9):
                    self.play_all(TABLE, sequence, paper, place, met_errors(rng, TABLE, sequence, place, size))

    def test_unheld(self):
        rng = random.Random(3)
        many = 0
        for table in TABLES:
            for _ in range(6):
                sequence = random_sequence(rng, table, 8)
                place = rng.randint(0, len(sequence))
                errors = met_errors(rng, table, sequence, place, 2)
                paper = unheld_paper(table, sequence, place, errors) if is_kept(table, sequence) else None
                if paper is not None:
                    self.play_all(table, sequence, paper, place, errors)
                    many += 1
        self.assertGreater(many, 100)

    def test_drawn_papers(self):
        # Papers with steps that nobody needs, and for later places than they were made for.
        rng = random.Random(4)
        many = 0
        for table in [table for table in TABLES if table.totals]:
            for _ in range(12):
                sequence = random_sequence(rng, table, 6)
                steps = random_steps(rng, table, sequence, rng.randint(1, 12))
                place = rng.randint(0, len(sequence))
                errors = met_errors(rng, table, sequence, place, 2)
                if is_unheld_paper(table, sequence, place, errors, UnheldPaper(steps)):
                    self.play_all(table, sequence, UnheldPaper(steps), place, errors)
                    many += 1
        self.assertGreater(many, 60)

    def test_beaten_papers_with_more_steps(self):
        rng = random.Random(5)
        for table in TABLES:
            sequence = random_sequence(rng, table, 8)
            if is_kept(table, sequence):
                continue
            paper = told_paper(table, sequence)
            more = len(table.totals)
            first = tuple(("total", total, -1) for total in range(more))
            moved = tuple(step if step[0] == "total" else (step[0], step[1], step[2] + more, step[3] + more)
                          for step in paper.steps)
            longer = BeatenPaper(paper.line, first + moved)
            self.assertIs(is_beaten_paper(table, sequence, longer), True)
            for place in range(paper.line + 1):
                self.play_all(table, sequence, longer, place, met_errors(rng, table, sequence, place, 1))

    def test_examples(self):
        paper = told_paper(TABLE, (1, 0, 2))
        amount = beating_amount(errors=((0, 1),) * 3, place=0, paper=paper, sequence=(1, 0, 2), table=TABLE)
        self.assertIs(is_fraction(amount), True)
        self.play_all(TABLE, (1, 0, 2), paper, 0, ((0, 1),) * 3)
        one = Table(("cup",), ((0,),))
        for error in ((1, 1), (-1, 1), (7, 2)):
            paper = unheld_paper(one, (0, 0, 0), 1, (error,))
            self.assertEqual(self.play_all(one, (0, 0, 0), paper, 1, (error,)), 1)

    def test_long_sequences(self):
        rng = random.Random(6)
        for table, sequence in ((TABLE, (0, 2, 1) * 133 + (0,)), (ring_table(11), tuple(range(11)) * 36),
                                (ring_table(3), (0, 1) * 199 + (2, 0)), (ring_table(3), (2,) + (0, 1) * 199 + (2,))):
            paper = told_paper(table, sequence)
            self.assertIsInstance(paper, BeatenPaper)
            for place in {0, paper.line // 2, paper.line}:
                self.play_some(rng, table, sequence, paper, place, met_errors(rng, table, sequence, place, 1))
        sequence = tuple(rng.randrange(12) for _ in range(400))
        for place in (100, 399):
            errors = met_errors(rng, LINE, sequence, place, 4)
            paper = unheld_paper(LINE, sequence, place, errors)
            self.play_some(rng, LINE, sequence, paper, place, errors)

    def test_very_long_errors(self):
        rng = random.Random(7)
        bottom = 10 ** 3999 + 7
        for table, sequence in ((TABLE, (1, 0, 2)), (TABLE, (0, 1, 0, 2, 1)), (ring_table(5), (0, 1, 2, 3, 4) * 2)):
            paper = told_paper(table, sequence)
            place, numbers = paper.line, class_numbers(table)
            met = {numbers[kind] for kind in sequence[:place]}
            errors = tuple(told(Fraction(rng.randint(-bottom, bottom), bottom)) if numbers[kind] in met else (0, 1)
                           for kind in range(len(table.kinds)))
            self.play_some(rng, table, sequence, paper, place, errors)
        errors = tuple(told(Fraction(rng.randint(-bottom, bottom), bottom)) for _ in NAMES[:-1]) + ((bottom, bottom - 1),)
        paper = unheld_paper(LINE, tuple(range(12)) * 2, 12, errors)
        self.play_some(rng, LINE, tuple(range(12)) * 2, paper, 12, errors)


if __name__ == "__main__":
    unittest.main()
