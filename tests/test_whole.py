"""What the document promises over the whole program: many roads to the same answers."""

import random
import unittest
from itertools import combinations

from centsatonce.attacks import is_attack, is_attack_from
from centsatonce.begun import no_starts
from centsatonce.begunpapers import BegunPaper, begun_paper
from centsatonce.clashes import some_clash
from centsatonce.court import Blocks, court, is_good
from centsatonce.days import is_day
from centsatonce.derived import closes, derived_lot
from centsatonce.disk import Disk
from centsatonce.errors import Refused
from centsatonce.fewest import least_height, least_lines, quickest_attack
from centsatonce.halves import clerk_table, fewest_lines, half_states, least_attack
from centsatonce.held import are_held, are_held_for
from centsatonce.heldpapers import HeldPaper, held_paper
from centsatonce.holding import can_hold
from centsatonce.lean import lean_repairs
from centsatonce.levels import least_beyond
from centsatonce.lostlines import keeps_all
from centsatonce.narrow import narrowest
from centsatonce.reckonings import is_off
from centsatonce.repairs import is_repair
from centsatonce.runs import run_commands
from centsatonce.sequences import is_kept
from centsatonce.sheets import Sheet, is_sheet, new_sheet
from centsatonce.tables import Table
from centsatonce.till import start_till
from centsatonce.toldpapers import ToldPaper, told_paper, unheld_paper
from centsatonce.walks import can_go_on, lines_begun
from centsatonce.widewindow import is_wide_inside, wide_day
from centsatonce.window import is_inside
from centsatonce.windowdays import window_day
from tests.helpers import is_good_table, plain_classes, raised, random_fraction, random_lines, random_tables

TABLES = random_tables(1000, 120, most_kinds=5, most_totals=5, sizes=(0, 1, 2, 2, 3))
TABLES += random_tables(1001, 80, most_kinds=4, most_totals=6, sizes=(1, 2, 2, 3), least_kinds=3)


def can_have_states(table):
    try:
        half_states(table)
    except Refused:
        return False
    return True


class Tables(unittest.TestCase):

    def test_kept_or_not(self):
        seen = {True: 0, False: 0}
        for table in TABLES:
            good = is_good_table(table)
            kinds = tuple(range(len(table.kinds)))
            free = ((1,) * len(table.kinds), (None,) * len(table.totals))
            roads = [is_good(table), isinstance(court(table), Blocks), closes(table), derived_lot(table)[0] == "closed",
                     least_beyond(table) is None, least_height(table) is None, keeps_all(table), some_clash(table) is None,
                     narrowest(table) <= 1, is_kept(table, kinds * 12), isinstance(told_paper(table, kinds * 12), ToldPaper),
                     can_go_on(table, no_starts(table), ((0, 1),) * len(kinds)), are_held(table, ((0, 1),) * len(kinds)),
                     isinstance(held_paper(table, ((0, 1),) * len(kinds)), HeldPaper),
                     isinstance(begun_paper(table, no_starts(table), ((0, 1),) * len(kinds)), BegunPaper),
                     is_sheet(Sheet(table, ((0, 1),) * len(kinds))), raised(new_sheet, table) is None,
                     raised(start_till, Disk((0,) * 2000), table) is None, is_repair(table, ((), ())),
                     lean_repairs(table, free) == (((), ()),), quickest_attack(table, ((0, 1),) * len(kinds)) is None]
            if can_have_states(table):
                roads += [fewest_lines(table) is None, clerk_table(table) is not None, least_attack(table) is None]
                self.assertEqual(fewest_lines(table), least_height(table))
                if not good:
                    self.assertIs(is_attack(table, least_attack(table)), True)
            self.assertEqual(roads, [good] * len(roads), table.totals)
            seen[good] += 1
        self.assertGreater(min(seen.values()), 30)

    def test_adding_the_last_total(self):
        # A table with one total more is asked of the sheet, of a run and of the court.
        for table in TABLES:
            if not table.totals or not is_good_table(Table(table.kinds, table.totals[:-1])):
                continue
            sheet = new_sheet(Table(table.kinds, table.totals[:-1]))
            names = tuple(table.kinds[kind] for kind in table.totals[-1])
            results = run_commands(sheet, (("add", names), ("total", names)))
            good = is_good_table(table)
            self.assertEqual(results, (("yes",), ("did",)) if good else (("never",), ("refused",)))


class Errors(unittest.TestCase):

    def test_held_or_not(self):
        rng = random.Random(1)
        seen = {True: 0, False: 0}
        for table in TABLES:
            if not is_good_table(table):
                continue
            blocks, kinds = court(table), tuple(range(len(table.kinds)))
            for size in (1, 1, 2):
                errors = tuple(random_fraction(rng, size, (1, 2, 3)) for _ in kinds)
                sequence = kinds * 6
                held = is_inside(table, blocks, errors)
                derived = derived_lot(table)[1]
                roads = [are_held(table, errors), least_lines(table, errors) is None, lines_begun(table, no_starts(table), errors) is None,
                         can_go_on(table, no_starts(table), errors), is_sheet(Sheet(table, errors)), are_held_for(table, errors, 4),
                         isinstance(held_paper(table, errors), HeldPaper), can_hold(table, sequence, len(kinds), errors),
                         unheld_paper(table, sequence, len(kinds), errors) is None, quickest_attack(table, errors) is None,
                         not any(is_off(table, one, errors) for one in derived),
                         isinstance(begun_paper(table, no_starts(table), errors), BegunPaper)]
                self.assertEqual(roads, [held] * len(roads), (table.totals, errors))
                lines = least_lines(table, errors)
                self.assertEqual(lines_begun(table, no_starts(table), errors), lines)
                if lines is not None:
                    self.assertIs(are_held_for(table, errors, lines), False)
                    self.assertTrue(lines == 0 or are_held_for(table, errors, lines - 1))
                    self.assertIs(is_attack_from(table, errors, quickest_attack(table, errors)), True)
                if is_wide_inside(table, blocks.colours, errors):
                    self.assertTrue(held)
                seen[held] += 1
        self.assertGreater(min(seen.values()), 60)

    def test_days_by_many_roads(self):
        rng = random.Random(2)
        for table in TABLES:
            if is_good_table(table) and plain_classes(table):
                lines = random_lines(rng, table, 12)
                blocks = court(table)
                for day in (window_day(table, blocks, lines, (0,) * 12), wide_day(table, blocks.colours, lines)):
                    self.assertIs(is_day(table, day), True)


class Pieces(unittest.TestCase):

    def test_totals_of_a_repair_are_given_up_one_by_one(self):
        # What is left behind a repair can be the table of a till.
        for table in TABLES[:60]:
            for lot in [lot for many in range(3) for lot in combinations(range(len(table.totals)), many)]:
                left = Table(table.kinds, tuple(total for at, total in enumerate(table.totals) if at not in lot))
                self.assertIs(is_repair(table, ((), lot)), raised(new_sheet, left) is None)


if __name__ == "__main__":
    unittest.main()
