"""The examples of the document that use only what is there so far, in their sequence."""

import unittest

from centsatonce.attacks import attack_day, beaten_total, height_of, is_attack, mirrored
from centsatonce.begun import begin_total, no_starts
from centsatonce.days import course_of, first_off
from centsatonce.derivations import derived_by
from centsatonce.disk import Disk
from centsatonce.games import kept_days
from centsatonce.knots import odd_ring, parted, partings_into_three
from centsatonce.numbers import added, ceiling_of, floor_of, fraction_of, part_of, weighed
from centsatonce.pieces import piece_table, pieces_of
from centsatonce.printer import show_day, show_fraction, show_table
from centsatonce.reaches import lines_that_tell, post_way
from centsatonce.sequences import closures_back, is_kept, lost_line
from centsatonce.tables import Table, classes_of, core_of, totals_by_classes


class Examples(unittest.TestCase):

    def test_numbers_and_tables(self):
        self.assertEqual((fraction_of(6, -4), added((1, 2), (1, 6)), weighed((2, -1), ((1, 2), (1, 3)))),
                         ((-3, 2), (2, 3), (2, 3)))
        self.assertEqual((floor_of((-7, 3)), ceiling_of((-7, 3)), part_of((-7, 3)), part_of((4, 1))),
                         (-3, -2, (2, 3), (0, 1)))
        table = Table(("bun", "cup", "jam", "pie", "tea"), ((0, 2, 4), (), (2, 4), (3,), (0, 2, 4)))
        self.assertEqual((classes_of(table), totals_by_classes(table), core_of(table).totals),
                         (((0,), (2, 4), (3,)), ((0, 1), (), (1,), (2,), (0, 1)), ((0, 1), (1,), (2,))))
        self.assertEqual((pieces_of(table), piece_table(table, (0, 1)).kinds, piece_table(table, (2,)).totals),
                         (((0, 1), (2,)), ("bun", "jam", "tea"), ((0,),)))

    def test_texts(self):
        table = Table(("cup", "jam", "tea"), ((0, 2), (), (1,)))
        self.assertEqual(show_table(table), "kinds cup jam tea\ntotal cup tea\ntotal\ntotal jam")
        self.assertEqual((show_fraction((-3, 2)), show_fraction((5, 1)),
                          show_day(table, ((2, (7, 2), 4), (0, (-2, 1), -2)))),
                         ("-3/2", "5", "tea 7/2 = 4\ncup -2 = -2"))

    def test_meaning(self):
        table = Table(("cup", "jam", "tea"), ((0, 1, 2), (0, 2), (1, 2)))
        day = ((1, (5, 2), 3), (0, (1, 2), 0))
        self.assertEqual((course_of(table, day), first_off(table, day + ((2, (1, 2), 0),))),
                         ((((0, 1), (0, 1), (0, 1)), ((1, 2), (0, 1), (1, 2)), ((0, 1), (-1, 2), (1, 2))), 2))
        self.assertEqual(kept_days(table, ((0, (1, 2)), (2, (1, 2)), (1, (1, 2)))),
                         (((0, (1, 2), 0), (2, (1, 2), 1), (1, (1, 2), 0)),
                          ((0, (1, 2), 1), (2, (1, 2), 0), (1, (1, 2), 1))))

    def test_derivations_and_knots(self):
        table = Table(("cup", "jam", "tea"), ((0, 1), (1, 2), (0, 2)))
        steps = (("total", 0, 1), ("total", 1, 1), ("less", 1, 0, 1), ("total", 2, 1), ("less", 0, 3, 2))
        self.assertEqual(derived_by(table, steps), (0, 0, 2))
        table = Table(("a", "b", "c"), ((0,), (0, 1), (0, 1, 2)))
        self.assertEqual((parted(table, 2, 0, 1), partings_into_three(table, 2), odd_ring(table)),
                         (((0,), (), (1,), (2,)), ((0, 1),), None))

    def test_attacks(self):
        ring = Table(("cup", "jam", "tea"), ((0, 1), (1, 2), (0, 2)))
        up = ("line", 0, (1, 2), ("off", 0), ("line", 2, (1, 2), ("off", 1), ("off", 2)))
        attack = ("line", 1, (1, 2), up, mirrored(up))
        self.assertEqual((is_attack(ring, attack), is_attack(ring, up), height_of(attack), beaten_total(attack, (1, 0, 1))),
                         (True, False, 3, 1))
        self.assertEqual(attack_day(attack, (1, 0, 1)), ((1, (1, 2), 1), (0, (1, 2), 0), (2, (1, 2), 1)))

    def test_told_sequences(self):
        self.assertEqual(closures_back(Table(("a", "b"), ((0,), (0, 1))), (0, 1)),
                         ((), ((-1, 0), (1, 0)), ((-1, -1), (-1, 0), (1, 0), (1, 1))))
        table = Table(("x", "y", "z"), ((0, 1, 2), (0, 2), (1, 2)))
        self.assertEqual((is_kept(table, (1, 0, 2)), lost_line(table, (1, 0, 2)), is_kept(table, (0, 2, 1))),
                         (False, 0, True))

    def test_posts(self):
        table = Table(("bun", "cup", "jam", "tea"), ((0, 1), (1, 2), (2, 3), (3,)))
        self.assertEqual((post_way(table, 0, 4), lines_that_tell(table)), (((0, 1, 2, 3, 4), (0, 1, 2, 3)), 2))

    def test_begun(self):
        table = Table(("cup", "jam", "pie", "tea"), ((0, 1), (2, 3), (0, 2)))
        errors = ((1, 2), (0, 1), (0, 1), (0, 1))
        begun, starts = begin_total(table, no_starts(table), errors, (0, 2))
        self.assertEqual((begun.totals, starts), (((0, 1), (2, 3), (0, 2), (0, 2)), ((0, 1), (0, 1), (0, 1), (1, 2))))

    def test_disk(self):
        disk = Disk((0,) * 900)
        self.assertEqual(Disk(tuple([disk.look(at) for at in range(900)])).cells, (0,) * 900)


if __name__ == "__main__":
    unittest.main()
