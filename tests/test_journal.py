"""Promise [76]: journals, which may be cut anywhere."""

import random
import unittest

from centsatonce.disk import Disk, cut_cells, pending_places
from centsatonce.errors import Broken, Refused
from centsatonce.journal import Journal
from tests.helpers import raised


def cells_of(disk):
    """The octets that are on a disk now."""
    return tuple(disk.look(at) for at in range(len(disk.cells)))


def room_of(many):
    """What the records on so many cells may weigh, 8 added for each, and never be refused."""
    return many // 2 - 8


def weight(records):
    return sum(len(record) + 8 for record in records)


def random_record(rng, most=9):
    octets = rng.choice(((0,), (255,), (0, 1), (1, 3), tuple(range(256))))
    return tuple(rng.choice(octets) for _ in range(rng.randint(0, most)))


def random_call(rng, records, room):
    """Some call of a journal, its argument, and the records behind it."""
    word = rng.choice(("write", "write", "write", "drop", "renew"))
    if word == "drop":
        many = rng.randint(0, len(records))
        return word, many, records[:len(records) - many]
    if word == "write":
        record = random_record(rng)
        if weight(records + (record,)) <= room:
            return word, record, records + (record,)
    new = []
    for _ in range(rng.randint(0, 4)):
        record = random_record(rng)
        if weight(new + [record]) <= room:
            new.append(record)
    return "renew", tuple(new), tuple(new)


def fillings(rng, many):
    """Octets for so many pending places: hostile ones and random ones."""
    found = [(0,) * many, (255,) * many, (1,) * many, (254,) * many]
    found.extend(tuple(rng.randrange(256) for _ in range(many)) for _ in range(3))
    if many == 1:
        found.extend((octet,) for octet in range(256))
    return found


class Records(unittest.TestCase):

    def test_none_on_zeros(self):
        for many in list(range(1, 40)) + [900, 20000]:
            journal = Journal(Disk((0,) * many))
            self.assertEqual(journal.records(), ())
            self.assertEqual(journal.disk.events(), ())

    def test_calls(self):
        disk = Disk((0,) * 400)
        journal = Journal(disk=disk)
        self.assertIs(journal.disk, disk)
        self.assertIsNone(journal.write(record=(1, 2, 3)))
        self.assertIsNone(journal.write(()))
        journal.write((255, 0))
        self.assertEqual(journal.records(), ((1, 2, 3), (), (255, 0)))
        self.assertIsNone(journal.drop(many=2))
        self.assertEqual(journal.records(), ((1, 2, 3),))
        journal.drop(0)
        self.assertEqual(journal.records(), ((1, 2, 3),))
        self.assertIsNone(journal.renew(records=((9,), (8, 8))))
        self.assertEqual(journal.records(), ((9,), (8, 8)))
        journal.renew(())
        self.assertEqual(journal.records(), ())

    def test_journal_made_anew_has_the_same(self):
        rng = random.Random(1)
        for _ in range(60):
            many = rng.choice((40, 60, 61, 120, 333))
            journal, records = Journal(Disk((0,) * many)), ()
            for _ in range(25):
                word, value, records = random_call(rng, records, room_of(many))
                getattr(journal, word)(value)
                self.assertEqual(journal.records(), records)
                events = journal.disk.events()
                self.assertEqual(Journal(Disk(cells_of(journal.disk))).records(), records)
                self.assertEqual(Journal(journal.disk).records(), records)
                self.assertEqual(journal.disk.events(), events)
                self.assertEqual(pending_places(events), ())

    def test_on_any_left_cells(self):
        rng = random.Random(2)
        for _ in range(40):
            cells, records = (0,) * 200, ()
            for _ in range(12):
                journal = Journal(Disk(cells))
                self.assertEqual(journal.records(), records)
                word, value, records = random_call(rng, records, room_of(200))
                getattr(journal, word)(value)
                cells = cells_of(journal.disk)

    def test_long_records(self):
        journal = Journal(Disk((0,) * 20000))
        for length in (255, 256, 257, 512, 5000):
            record = tuple(at * 7 & 255 for at in range(length))
            journal.renew((record, (1,), record[:300]))
            self.assertEqual(Journal(Disk(cells_of(journal.disk))).records(), (record, (1,), record[:300]))
        longest = (7,) * (room_of(20000) - 8)
        journal.renew((longest,))
        self.assertEqual(Journal(Disk(cells_of(journal.disk))).records(), (longest,))


class Refusing(unittest.TestCase):

    def test_drop(self):
        journal = Journal(Disk((0,) * 100))
        self.assertEqual(raised(journal.drop, 1), ("Refused", {"word": "records"}))
        journal.write((1,))
        before = journal.disk.events()
        self.assertEqual(raised(journal.drop, 2), ("Refused", {"word": "records"}))
        self.assertEqual((journal.records(), journal.disk.events()), (((1,),), before))
        journal.drop(1)
        self.assertEqual(journal.records(), ())

    def test_full_room_is_never_refused(self):
        for many in list(range(16, 80)) + [500, 501, 19999]:
            room = room_of(many)
            for lengths in ([room - 8], [0] * (room // 8), [3] * (room // 11), [1, room - 17]):
                records = tuple((5,) * length for length in lengths if length >= 0)
                if weight(records) > room:
                    continue
                journal = Journal(Disk((0,) * many))
                for record in records:
                    journal.write(record)
                self.assertEqual(journal.records(), records)
                for _ in range(3):
                    journal.renew(records)
                    self.assertEqual(Journal(Disk(cells_of(journal.disk))).records(), records)
                if records:
                    journal.drop(1)
                    journal.write(records[-1])
                    self.assertEqual(journal.records(), records)

    def test_no_room(self):
        for many in (1, 2, 3, 4, 5, 9, 16, 40, 100):
            journal = Journal(Disk((0,) * many))
            for call, value in ((journal.write, (0,) * many), (journal.renew, ((0,) * many,)),
                                (journal.renew, ((),) * many)):
                self.assertEqual(raised(call, value), ("Refused", {"word": "room"}))
                self.assertEqual((journal.records(), journal.disk.events()), ((), ()))
            count = 0
            with self.assertRaises(Refused):
                while True:
                    journal.write((3,))
                    count += 1
            self.assertLess(count, many)
            self.assertEqual(Journal(Disk(cells_of(journal.disk))).records(), ((3,),) * count)
            before = journal.disk.events()
            self.assertEqual(raised(journal.write, (3,)), ("Refused", {"word": "room"}))
            self.assertEqual((journal.records(), journal.disk.events()), (((3,),) * count, before))

    def test_filled_to_the_brim(self):
        for many in list(range(1, 70)) + [200, 201]:
            for turns in (0, 1, 2, 3):
                journal = Journal(Disk((0,) * many))
                if raised(journal.renew, ()) is None:
                    for _ in range(turns):
                        journal.renew(())
                records = ()
                for length in range(9, -1, -1):
                    record = (length, 255, 1, 3, 0, 77, 1, 1, 1)[:length]
                    while raised(journal.write, record) is None:
                        records += (record,)
                self.assertEqual(journal.records(), records)
                self.assertEqual(Journal(Disk(cells_of(journal.disk))).records(), records)
                self.check_places(journal.disk)
                journal.renew(records)
                self.assertEqual(Journal(Disk(cells_of(journal.disk))).records(), records)
                self.check_places(journal.disk)

    def check_places(self, disk):
        """Whether octets were put at places of the disk alone."""
        for event in disk.events():
            if event is not None:
                self.assertIn(event[0], range(len(disk.cells)))
                self.assertIn(event[1], range(256))

    def test_any_cells(self):
        rng = random.Random(3)
        broken = 0
        for _ in range(3000):
            many = rng.randint(1, 40)
            octets = rng.choice(((0, 1), (0, 1, 255), tuple(range(256)), (255,)))
            cells = tuple(rng.choice(octets) for _ in range(many))
            try:
                records = Journal(Disk(cells)).records()
                self.assertTrue(all(0 <= octet < 256 for record in records for octet in record))
            except Broken as error:
                self.assertEqual(error.word, "journal")
                broken += 1
        self.assertGreater(broken, 100)


class CutAnywhere(unittest.TestCase):

    def check_cuts(self, rng, journal, begun, before, behind):
        """Whether all cuts behind the first events leave the records of before or behind."""
        cells, events = journal.disk.cells, journal.disk.events()
        seen = set()
        for many in range(begun, len(events) + 1):
            for octets in fillings(rng, len(pending_places(events[:many]))):
                left = Journal(Disk(cut_cells(cells, events[:many], octets))).records()
                self.assertIn(left, (before, behind))
                seen.add(left == behind)
                if many == len(events):
                    self.assertEqual(left, behind)
                if many == begun:
                    self.assertEqual(left, before)
        return seen

    def test_cut_at_every_moment(self):
        rng = random.Random(4)
        for _ in range(20):
            many = rng.choice((40, 64, 101, 160))
            journal, records = Journal(Disk((0,) * many)), ()
            for _ in range(8):
                before, begun = records, len(journal.disk.events())
                word, value, records = random_call(rng, records, room_of(many))
                getattr(journal, word)(value)
                seen = self.check_cuts(rng, journal, begun, before, records)
                if before != records:
                    self.assertEqual(seen, {True, False})

    def test_cut_again_and_again(self):
        rng = random.Random(5)
        for _ in range(60):
            many = rng.choice((40, 64, 101, 160))
            cells, records = (0,) * many, ()
            for _ in range(15):
                journal = Journal(Disk(cells))
                self.assertEqual(journal.records(), records)
                for _ in range(rng.randint(0, 2)):
                    word, value, records = random_call(rng, records, room_of(many))
                    getattr(journal, word)(value)
                before, begun = records, len(journal.disk.events())
                word, value, behind = random_call(rng, records, room_of(many))
                getattr(journal, word)(value)
                events = journal.disk.events()[:rng.randint(begun, len(journal.disk.events()))]
                octets = rng.choice(fillings(rng, len(pending_places(events))))
                cells = cut_cells(journal.disk.cells, events, octets)
                records = Journal(Disk(cells)).records()
                self.assertIn(records, (before, behind))

    def test_full_journals_after_cuts(self):
        rng = random.Random(6)
        for _ in range(60):
            cells = (0,) * 60
            for _ in range(6):
                journal = Journal(Disk(cells))
                records = ((rng.randrange(256),) * 6, (rng.randrange(256),))
                journal.renew(records)
                self.assertEqual(journal.records(), records)
                events = journal.disk.events()
                events = events[:rng.randint(0, len(events))]
                cells = cut_cells(cells, events, rng.choice(fillings(rng, len(pending_places(events)))))


if __name__ == "__main__":
    unittest.main()
