"""Promise [75]: disks."""

import random
import unittest

from centsatonce.disk import Disk, cut_cells, pending_places
from tests.helpers import Rude, Yes, odd_values, raised


def is_octet_tuple(value):
    return isinstance(value, tuple) and 1 <= len(value) and all(type(item) is int and 0 <= item < 256 for item in value)


class Making(unittest.TestCase):

    def test_cells(self):
        for cells in ((0,), (255,), (1, 2, 3), (0,) * 20000, tuple(range(256))):
            disk = Disk(cells)
            self.assertEqual(disk.cells, cells)
            self.assertEqual(tuple(disk.look(at) for at in range(len(cells))), cells)
            self.assertEqual(disk.events(), ())
        self.assertEqual(Disk(cells=(7,)).look(at=0), 7)

    def test_wrong_cells(self):
        wrong = [(), (0,) * 20001, (256,), (-1,), (True,), (0, False), (0.0,), ("0",), (None,), [0], [], "0", b"0", bytes(3),
                 0, None, True, range(3), {0}, {0: 0}, ((0,),), Rude(), Yes(), (0, Rude()), (Yes(),), (0, 1, 256), (0, [1]),
                 (10 ** 30,)]
        for cells in wrong + [value for value in odd_values() if not is_octet_tuple(value)]:
            self.assertEqual(raised(Disk, cells), ("Refused", {"word": "cells"}))
        self.assertEqual(raised(Disk, (0,) * 19999 + (256,)), ("Refused", {"word": "cells"}))


class Changing(unittest.TestCase):

    def test_puts(self):
        disk = Disk((1, 2, 3))
        self.assertIsNone(disk.put(1, 9))
        self.assertEqual([disk.look(at) for at in range(3)], [1, 9, 3])
        self.assertIsNone(disk.flush())
        disk.put(octet=8, at=1)
        disk.put(0, 1)
        self.assertEqual(disk.events(), ((1, 9), None, (1, 8), (0, 1)))
        self.assertEqual([disk.look(at) for at in range(3)], [1, 8, 3])
        self.assertEqual(disk.cells, (1, 2, 3))

    def test_events_are_those_of_before(self):
        disk = Disk((0, 0))
        disk.put(0, 5)
        events = disk.events()
        disk.put(1, 6)
        disk.flush()
        self.assertEqual(events, ((0, 5),))
        self.assertEqual(disk.events(), ((0, 5), (1, 6), None))

    def test_two_disks(self):
        cells = (0, 0)
        one, other = Disk(cells), Disk(cells)
        one.put(0, 1)
        self.assertEqual((one.look(0), other.look(0), other.events()), (1, 0, ()))


class Cuts(unittest.TestCase):

    def test_pending_places(self):
        for events, places in (((), ()), ((None,), ()), (((3, 1), (1, 2), (3, 3)), (1, 3)), (((3, 1), None), ()),
                               (((3, 1), None, (2, 1), (0, 1)), (0, 2)), (((3, 1), None, (3, 2), None, (5, 2)), (5,)),
                               ((None, (0, 0)), (0,)), (((10, 1), (9, 1)), (9, 10))):
            self.assertEqual(pending_places(events), places)
        self.assertEqual(pending_places(events=((4, 4),)), (4,))

    def test_cut_cells(self):
        cells = (1, 2, 3, 4)
        events = ((0, 9), (1, 8), None, (1, 7), (3, 6), (3, 5))
        self.assertEqual(cut_cells(cells, events, (100, 200)), (9, 100, 3, 200))
        self.assertEqual(cut_cells(cells, events[:3], ()), (9, 8, 3, 4))
        self.assertEqual(cut_cells(cells, (), ()), cells)
        self.assertEqual(cut_cells(octets=(0,), events=((2, 9),), cells=cells), (1, 2, 0, 4))

    def test_many_cuts(self):
        rng = random.Random(75)
        for _ in range(400):
            cells = tuple(rng.randrange(256) for _ in range(rng.randint(1, 8)))
            disk, last, pending = Disk(cells), list(cells), {}
            for _ in range(rng.randint(0, 15)):
                if rng.random() < 0.2:
                    disk.flush()
                    pending = {}
                else:
                    at, octet = rng.randrange(len(cells)), rng.randrange(256)
                    disk.put(at, octet)
                    last[at] = octet
                    pending[at] = True
            events = disk.events()
            self.assertEqual(pending_places(events), tuple(sorted(pending)))
            octets = tuple(rng.randrange(256) for _ in pending)
            left = list(last)
            for at, octet in zip(sorted(pending), octets):
                left[at] = octet
            self.assertEqual(cut_cells(cells, events, octets), tuple(left))
            kept = tuple(last[at] for at in sorted(pending))
            self.assertEqual(cut_cells(cells, events, kept), tuple(disk.look(at) for at in range(len(cells))))
            self.assertEqual(disk.events(), events)


if __name__ == "__main__":
    unittest.main()
