"""The examples of the document that use only what is there so far, in their sequence."""

import unittest

from centsatonce.attacks import attack_day, beaten_total, height_of, is_attack, mirrored
from centsatonce.begun import begin_total, no_starts
from centsatonce.clashes import all_clashes, is_clash
from centsatonce.court import Blocks, court, sides_of_total
from centsatonce.days import course_of, first_off, total_errors
from centsatonce.deeds import line_deed, open_totals, sheet_after
from centsatonce.derivations import derived_by
from centsatonce.derived import derived_lot
from centsatonce.disk import Disk
from centsatonce.endings import count_window_days, day_to
from centsatonce.fewest import least_height, least_lines, stubborn
from centsatonce.games import kept_days
from centsatonce.halves import fewest_lines, half_states, is_clerk_table, lost_states
from centsatonce.held import are_held_for, lasting_wholes, lost_pairs
from centsatonce.heldpapers import held_paper
from centsatonce.holding import allowed_in, told_day
from centsatonce.knots import odd_ring, parted, partings_into_three
from centsatonce.narrow import narrowest
from centsatonce.numbers import added, ceiling_of, floor_of, fraction_of, part_of, weighed
from centsatonce.pieces import piece_table, pieces_of
from centsatonce.places import all_ends
from centsatonce.pressing import press, pressed_day
from centsatonce.printer import show_day, show_fraction, show_table
from centsatonce.reaches import lines_that_tell, post_way
from centsatonce.reader import read_day, read_fraction, read_sequence, read_table
from centsatonce.reasons import is_bar
from centsatonce.sequences import closures_back, is_kept, lost_line
from centsatonce.sheets import new_sheet
from centsatonce.struck import deeds_on_ways, strike_attack
from centsatonce.tables import Table, classes_of, core_of, totals_by_classes
from centsatonce.tapes import standing_day, tape_errors
from centsatonce.wearing import even_tape, wearing_bound, wearing_deed
from centsatonce.widewindow import near_day, wide_day
from centsatonce.wider import bound_of, widths_of
from centsatonce.window import allowed, gap_beside, window_of
from centsatonce.windowdays import window_day


class Examples(unittest.TestCase):

    def test_overview(self):
        self.assertEqual(court(read_table("kinds tea cup\ntotal tea\ntotal cup\ntotal tea cup")).__class__.__name__, "Blocks")
        text = "kinds jam tea cup\ntotal tea\ntotal cup\ntotal jam tea cup"
        self.assertEqual(court(read_table(text)).__class__.__name__, "Knot")

    def test_numbers_and_tables(self):
        self.assertEqual((fraction_of(6, -4), added((1, 2), (1, 6)), weighed((2, -1), ((1, 2), (1, 3)))),
                         ((-3, 2), (2, 3), (2, 3)))
        self.assertEqual((floor_of((-7, 3)), ceiling_of((-7, 3)), part_of((-7, 3)), part_of((4, 1))),
                         (-3, -2, (2, 3), (0, 1)))
        table = Table(("bun", "cup", "jam", "pie", "tea"), ((0, 2, 4), (), (2, 4), (3,), (0, 2, 4)))
        self.assertEqual((classes_of(table), totals_by_classes(table), core_of(table).totals),
                         (((0,), (2, 4), (3,)), ((0, 1), (), (1,), (2,), (0, 1)), ((0, 1), (1,), (2,))))
        self.assertEqual((pieces_of(table), piece_table(table, (0, 1)).kinds, piece_table(table, (2,)).totals),
                         (((0, 1), (2,)), ("bun", "jam", "tea"), ((0,),)))

    def test_texts(self):
        table = read_table("\nkinds tea cup jam\ntotal tea cup\n\ntotal\ntotal jam")
        self.assertEqual((table.kinds, table.totals), (("cup", "jam", "tea"), ((0, 2), (), (1,))))
        self.assertEqual((read_fraction("-6/4"), read_day(table, "tea 7/2 = 4\n\njam -1/3 = -1"),
                          read_sequence(table, "tea tea cup")), ((-3, 2), ((2, (7, 2), 4), (1, (-1, 3), -1)), (2, 2, 0)))
        self.assertEqual(show_table(table), "kinds cup jam tea\ntotal cup tea\ntotal\ntotal jam")
        self.assertEqual((show_fraction((-3, 2)), show_fraction((5, 1)),
                          show_day(table, ((2, (7, 2), 4), (0, (-2, 1), -2)))),
                         ("-3/2", "5", "tea 7/2 = 4\ncup -2 = -2"))

    def test_meaning(self):
        table = Table(("cup", "jam", "tea"), ((0, 1, 2), (0, 2), (1, 2)))
        day = ((1, (5, 2), 3), (0, (1, 2), 0))
        self.assertEqual((course_of(table, day), first_off(table, day + ((2, (1, 2), 0),))),
                         ((((0, 1), (0, 1), (0, 1)), ((1, 2), (0, 1), (1, 2)), ((0, 1), (-1, 2), (1, 2))), 2))
        self.assertEqual(kept_days(table, ((0, (1, 2)), (2, (1, 2)), (1, (1, 2)))),
                         (((0, (1, 2), 0), (2, (1, 2), 1), (1, (1, 2), 0)),
                          ((0, (1, 2), 1), (2, (1, 2), 0), (1, (1, 2), 1))))

    def test_halves(self):
        ring = Table(("cup", "jam", "tea"), ((0, 1), (1, 2), (0, 2)))
        self.assertEqual((len(half_states(ring)), fewest_lines(ring), lost_states(ring)[(0, -1, 1)]), (13, 3, 1))
        self.assertIs(is_clerk_table(Table(("cup",), ((0,),)), (((-1,), (1,)), ((0,), (0,)))), True)

    def test_derivations_and_knots(self):
        self.assertEqual(derived_lot(Table(("cup", "tea"), ((0,), (0, 1)))),
                         ("closed", ((-1, -1), (-1, 0), (0, -1), (0, 0), (0, 1), (1, 0), (1, 1))))
        table = Table(("cup", "jam", "tea"), ((0, 1), (1, 2), (0, 2)))
        steps = (("total", 0, 1), ("total", 1, 1), ("less", 1, 0, 1), ("total", 2, 1), ("less", 0, 3, 2))
        self.assertEqual((derived_by(table, steps), press(table, steps, ((0, 1), (0, 1), (0, 1)))),
                         ((0, 0, 2), ("line", 2, (1, 2))))
        self.assertEqual(pressed_day(table, steps, (1,)), ((2, (1, 2), 1), (0, (1, 2), 0), (1, (1, 2), 0)))
        table = Table(("a", "b", "c"), ((0,), (0, 1), (0, 1, 2)))
        self.assertEqual((parted(table, 2, 0, 1), partings_into_three(table, 2), odd_ring(table)),
                         (((0,), (), (1,), (2,)), ((0, 1),), None))

    def test_court(self):
        table = Table(("a", "b", "c"), ((1,), (0, 1), (1, 2)))
        blocks = court(table)
        self.assertEqual((blocks.colours, blocks.pieces, sides_of_total(table, blocks, 0)),
                         ((1, -1, 1), ((0, 1, 2),), (None, 1)))

    def test_window(self):
        table, errors = Table(("cup", "tea"), ((0,), (1,), (0, 1))), ((1, 4), (0, 1))
        blocks = Blocks((1, -1), ((0, 1),))
        self.assertEqual((window_of(table, blocks, errors), gap_beside(table, blocks, errors, 1)),
                         ((((0, 1), (1, 4)),), ((1, 4), (1, 1))))
        self.assertEqual((allowed(table, blocks, errors, 1, (1, 8)), allowed(table, blocks, errors, 1, (3, 4))),
                         ((0,), (0, 1)))
        lines = ((0, (1, 2)), (1, (1, 2)), (0, (1, 2)))
        self.assertEqual((window_day(table, blocks, lines, (1, 1, 1)), count_window_days(table, blocks, lines)),
                         (((0, (1, 2), 1), (1, (1, 2), 0), (0, (1, 2), 0)), 2))
        self.assertEqual((all_ends(table, blocks, lines), day_to(table, blocks, lines, ((0, 1), (-1, 2)))),
                         ((((0, 1), (-1, 2)), ((0, 1), (1, 2))), ((0, (1, 2), 0), (1, (1, 2), 1), (0, (1, 2), 1))))

    def test_attacks(self):
        ring = Table(("cup", "jam", "tea"), ((0, 1), (1, 2), (0, 2)))
        up = ("line", 0, (1, 2), ("off", 0), ("line", 2, (1, 2), ("off", 1), ("off", 2)))
        attack = ("line", 1, (1, 2), up, mirrored(up))
        self.assertEqual((is_attack(ring, attack), is_attack(ring, up), height_of(attack), beaten_total(attack, (1, 0, 1))),
                         (True, False, 3, 1))
        self.assertEqual(attack_day(attack, (1, 0, 1)), ((1, (1, 2), 1), (0, (1, 2), 0), (2, (1, 2), 1)))
        table = Table(("cup", "tea"), ((0,), (0, 1)))
        self.assertEqual((least_height(ring), least_height(table), least_lines(table, ((-2, 3), (1, 1)))), (3, None, 1))
        self.assertEqual((least_lines(table, ((-2, 3), (1, 2))), stubborn(table, ((-1, 2), (0, 1)), 1, (3, 4))), (None, 1))

    def test_told_sequences(self):
        self.assertEqual(closures_back(Table(("a", "b"), ((0,), (0, 1))), (0, 1)),
                         ((), ((-1, 0), (1, 0)), ((-1, -1), (-1, 0), (1, 0), (1, 1))))
        table = Table(("x", "y", "z"), ((0, 1, 2), (0, 2), (1, 2)))
        self.assertEqual((is_kept(table, (1, 0, 2)), lost_line(table, (1, 0, 2)), is_kept(table, (0, 2, 1))),
                         (False, 0, True))

        self.assertEqual((allowed_in(table, (0, 2, 1), 1, ((1, 2), (0, 1), (0, 1)), (1, 3)),
                          told_day(table, (0, 2, 1), ((1, 2), (1, 2)))), ((0,), ((0, (1, 2), 0), (2, (1, 2), 1))))

    def test_posts(self):
        table = Table(("bun", "cup", "jam", "tea"), ((0, 1), (1, 2), (2, 3), (3,)))
        self.assertEqual((post_way(table, 0, 4), lines_that_tell(table)), (((0, 1, 2, 3, 4), (0, 1, 2, 3)), 2))
        errors = ((1, 2), (0, 1), (-1, 3), (2, 3))
        self.assertEqual((lost_pairs(table, errors), are_held_for(table, errors, 1), are_held_for(table, errors, 2)),
                         (((3, 0, 3),), True, False))
        self.assertEqual(sorted(held_paper(table, errors).totals), [0, 1, 2])
        self.assertEqual((lasting_wholes(table, errors, 1, (1, 2), 1), lasting_wholes(table, errors, 1, (1, 2), 0)), ((), (0,)))

    def test_reasons(self):
        table, lines = Table(("cup", "tea"), ((0,), (0, 1))), ((0, (1, 2)), (1, (1, 3)), (0, (1, 2)))
        self.assertIs(is_bar(table, lines, ((2, 2), None), (("goal", 0, -1), ("kept", 0, 3, 1))), True)

    def test_begun(self):
        table = Table(("cup", "jam", "pie", "tea"), ((0, 1), (2, 3), (0, 2)))
        errors = ((1, 2), (0, 1), (0, 1), (0, 1))
        begun, starts = begin_total(table, no_starts(table), errors, (0, 2))
        self.assertEqual((begun.totals, starts), (((0, 1), (2, 3), (0, 2), (0, 2)), ((0, 1), (0, 1), (0, 1), (1, 2))))

    def test_widths(self):
        table = Table(("cup", "jam", "tea"), ((0,), (0, 1), (0, 1, 2)))
        self.assertEqual((widths_of(table, (1, -1, 1)), bound_of(table, (1, -1, 1), (2, 1, -1)), narrowest(table)),
                         ((1, 1, 2), 2, 2))
        self.assertEqual(wide_day(table, (1, -1, 1), ((0, (1, 2)), (1, (1, 2)), (2, (1, 2)))),
                         ((0, (1, 2), 0), (1, (1, 2), 1), (2, (1, 2), 0)))
        self.assertEqual(total_errors(table, near_day(table, (1, 1, 1), (1, 1, 1), 4))[2], (9, 4))

    def test_clashes(self):
        table = Table(("a", "b", "c", "d"), ((0,), (0, 1), (0, 1, 2, 3)))
        self.assertEqual((all_clashes(table), is_clash(table, ((0, 1, 2, 3), (0, 1, 2)))),
                         ((((0, 1, 2), (0, 1, 2)), ((0, 1, 3), (0, 1, 2))), False))

    def test_tapes(self):
        table = Table(("cup", "tea"), ((0,), (0, 1)))
        tape = ((0, (1, 2), 1), (1, (1, 2), 0), (0, (1, 2), 0), ("struck", 2))
        self.assertEqual((standing_day(tape), tape_errors(table, tape)),
                         (((0, (1, 2), 1), (1, (1, 2), 0)), ((1, 2), (0, 1))))
        one = Table(("cup",), ((0,),))
        self.assertEqual((deeds_on_ways(strike_attack(one, 2)), deeds_on_ways(strike_attack(one, 3))), ((4, 2), (3, 1)))
        self.assertEqual(even_tape(table, 0, ((0, (1, 3)), (0, (1, 3)), ("struck", 1), (0, (1, 3)))),
                         ((0, (1, 3), 0), (0, (1, 3), 1), ("struck", 1), (0, (1, 3), 0)))
        self.assertEqual((wearing_bound((1, 1), 1), wearing_deed(table, 0, (1, 1), 1, ())), (19, (0, (1, 3))))

    def test_deeds(self):
        sheet = sheet_after(new_sheet(Table(("cup", "tea"), ((0,),))), ("line", 0, (7, 2), 4))
        self.assertEqual((sheet.errors, line_deed(sheet, 0, (5, 2), 3), open_totals(sheet)),
                         (((1, 2), (0, 1)), ("line", 0, (5, 2), 2), ((), (0,), (0, 1), (1,))))

    def test_disk(self):
        disk = Disk((0,) * 900)
        self.assertEqual(Disk(tuple([disk.look(at) for at in range(900)])).cells, (0,) * 900)


if __name__ == "__main__":
    unittest.main()
