"""Promise [80]: tills, whose disks may be cut anywhere."""

import random
import unittest
from fractions import Fraction

from centsatonce.days import totals_by
from centsatonce.deeds import is_deed, line_deed, sheet_after_all
from centsatonce.disk import Disk, cut_cells, pending_places
from centsatonce.errors import Broken
from centsatonce.journal import Journal
from centsatonce.sheets import is_sheet, new_sheet
from centsatonce.tables import Table
from centsatonce.till import Till, start_till
from tests.helpers import NAMES, Rude, Yes, exact, odd_values, raised, random_fraction, told
from tests.test_deeds import GOOD, random_deed
from tests.test_spoils import ring_table

TABLE = Table(("cup", "tea"), ((0,), (0, 1)))
LINE = Table(NAMES, tuple((at, at + 1) for at in range(11)) + ((11,),))
NO_TILL = ("Broken", {"word": "till"})
NO_ROOM = ("Refused", {"word": "room"})
NO_DEED = ("Refused", {"word": "deed"})
NO_DEEDS = ("Refused", {"word": "deeds"})
NO_TABLE = ("Refused", {"word": "table"})


def cells_of(disk):
    return tuple(disk.look(at) for at in range(len(disk.cells)))


def state_of(till):
    """The sheets and the deeds of a till."""
    return (till.sheet, till.begun(), till.deeds())


def state_on(cells):
    """The state of the till on some cells, None if there is no till."""
    try:
        disk = Disk(cells)
        state = state_of(Till(disk))
    except Broken as error:
        if error.word != "till":
            raise
        return None
    if disk.events():
        raise AssertionError("a till was read by putting")
    return state


def digits(number):
    """How many decimal digits a number has, also more than Python shows."""
    many, unit = 1, 10
    while number >= unit:
        many, unit = many + 1, unit * 10
    return many


def weight_of_sheet(sheet):
    """What a sheet weighs, by the words of the promise."""
    weight = 16 + 32 * len(sheet.table.kinds) + 8 * len(sheet.table.totals) + 4 * sum(map(len, sheet.table.totals))
    return weight + sum(digits(abs(number)) for error in sheet.errors for number in error)


def weight_of_deed(deed):
    return 64 + (4 * len(deed[-1]) if isinstance(deed[-1], tuple) else 0)


def weight(sheet, deeds):
    return weight_of_sheet(sheet) + sum(map(weight_of_deed, deeds))


def fillings(rng, cells, events):
    """Octets for the pending places: old ones, new ones, mixed, hostile and random ones."""
    places = pending_places(events)
    flushed = max((at + 1 for at, event in enumerate(events) if event is None), default=0)
    old = cut_cells(cells, events[:flushed], ())
    new = cut_cells(cells, events, tuple(event[1] for place in places
                                         for event in [[one for one in events if one and one[0] == place][-1]]))
    found = [tuple(old[place] for place in places), tuple(new[place] for place in places)]
    found.append(tuple(rng.choice((old[place], new[place])) for place in places))
    found.extend([(0,) * len(places), (255,) * len(places), (1,) * len(places)])
    found.append(tuple(rng.randrange(256) for _ in places))
    if len(places) == 1:
        found.extend((octet,) for octet in range(0, 256, 51))
    return found


class CutAnywhere(unittest.TestCase):

    def check_cuts(self, rng, disk, begun, before, behind):
        """Whether all cuts behind the events of a call leave what was before it or what is behind it."""
        events, seen = disk.events(), set()
        for many in range(begun, len(events) + 1):
            for octets in fillings(rng, disk.cells, events[:many]):
                left = state_on(cut_cells(disk.cells, events[:many], octets))
                self.assertIn(left, (before, behind))
                seen.add(left == behind)
                if many == len(events):
                    self.assertEqual(left, behind)
                if many == begun:
                    self.assertEqual(left, before)
        return seen

    def random_call(self, rng, till):
        """Do some call; whether it was refused."""
        word = rng.choice(("do", "do", "do", "enter", "enter", "undo", "pack"))
        if word == "do":
            return raised(till.do, random_deed(rng, till.sheet)) is not None
        if word == "enter":
            kind, amount = rng.randrange(len(till.sheet.table.kinds)), random_fraction(rng, 5)
            self.assertIn(till.enter(kind, amount, rng.randint(-3, 3)), (amount[0] // amount[1], amount[0] // amount[1] + 1))
            return False
        if word == "undo":
            return raised(till.undo, rng.randint(0, 3)) is not None
        till.pack()
        return False

    def test_cut_at_every_moment(self):
        rng = random.Random(1)
        both = 0
        for table in GOOD[:6] + [TABLE]:
            disk = Disk((0,) * 1400)
            till = start_till(disk, table)
            both += self.check_cuts(rng, disk, 0, None, state_of(till)) == {True, False}
            for _ in range(8):
                before, begun = state_of(till), len(disk.events())
                if self.random_call(rng, till):
                    self.assertEqual((state_of(till), len(disk.events())), (before, begun))
                if len(disk.events()) > begun:
                    both += self.check_cuts(rng, disk, begun, before, state_of(till)) == {True, False}
        self.assertGreater(both, 20)

    def test_start_over_another_till_and_over_other_records(self):
        rng = random.Random(2)
        disk = Disk((0,) * 900)
        till = start_till(disk, TABLE)
        till.enter(0, (5, 3), 2)
        before, begun = state_of(till), len(disk.events())
        behind = state_of(start_till(disk, Table(("ale",), ())))
        self.assertEqual(self.check_cuts(rng, disk, begun, before, behind), {True, False})
        disk = Disk((0,) * 900)
        Journal(disk).renew(((1, 2, 3), ()))
        begun = len(disk.events())
        behind = state_of(start_till(disk, TABLE))
        self.assertEqual(self.check_cuts(rng, disk, begun, None, behind), {True, False})

    def test_cut_again_and_again(self):
        rng = random.Random(3)
        for table in GOOD[:25]:
            cells = cells_of(start_till(Disk((0,) * 1600), table).disk)
            for _ in range(6):
                disk = Disk(cells)
                till = Till(disk)
                for _ in range(rng.randint(0, 2)):
                    self.random_call(rng, till)
                before, begun = state_of(till), len(disk.events())
                self.random_call(rng, till)
                events = disk.events()[:rng.randint(begun, len(disk.events()))]
                cells = cut_cells(disk.cells, events, rng.choice(fillings(rng, disk.cells, events)))
                self.assertIn(state_on(cells), (before, state_of(till)))


class Tills(unittest.TestCase):

    def test_deeds_and_sheets(self):
        rng = random.Random(4)
        for table in GOOD[:40]:
            till = start_till(Disk((0,) * 20000), table)
            begun, done = new_sheet(table), []
            for _ in range(25):
                word = rng.choice(("do", "do", "do", "undo", "pack", "enter"))
                if word == "do":
                    deed = random_deed(rng, till.sheet)
                    if is_deed(till.sheet, deed):
                        self.assertEqual(till.do(deed), deed)
                        done.append(deed)
                    else:
                        self.assertEqual(raised(till.do, deed), NO_DEED)
                elif word == "enter":
                    kind, amount, wish = rng.randrange(len(till.sheet.table.kinds)), random_fraction(rng), rng.randint(-9, 9)
                    done.append(line_deed(till.sheet, kind, amount, wish))
                    self.assertEqual(till.enter(kind, amount, wish), done[-1][3])
                elif word == "undo":
                    many = rng.randint(0, len(done))
                    self.assertIsNone(till.undo(many))
                    done = done[:len(done) - many]
                else:
                    self.assertIsNone(till.pack())
                    begun, done = till.sheet, []
                self.assertEqual(state_of(till), (sheet_after_all(begun, tuple(done)), begun, tuple(done)))
                self.assertIs(is_sheet(till.sheet), True)
                self.assertTrue(all(abs(exact(error)) < 1 for error in totals_by(till.sheet.table, till.sheet.errors)))
            self.assertEqual(state_on(cells_of(till.disk)), state_of(till))
            self.assertEqual(state_of(Till(till.disk)), state_of(till))

    def test_examples(self):
        disk = Disk((0,) * 900)
        till = start_till(table=TABLE, disk=disk)
        self.assertEqual((till.enter(0, (5, 3), 2), till.enter(wish=1, amount=(1, 2), kind=1), till.enter(1, (1, 2), 1)), (2, 1, 0))
        again = Till(disk=Disk(cells_of(disk)))
        self.assertEqual(again.sheet.errors, ((1, 3), (0, 1)))
        self.assertEqual(again.deeds(), (("line", 0, (5, 3), 2), ("line", 1, (1, 2), 1), ("line", 1, (1, 2), 0)))
        self.assertEqual(again.begun(), new_sheet(TABLE))
        again.undo(many=2)
        self.assertEqual(again.sheet.errors, ((1, 3), (0, 1)))
        self.assertEqual(again.do(deed=("name", 1, "ale")), ("name", 1, "ale"))
        self.assertEqual(again.sheet.table.kinds, ("ale", "cup"))
        self.assertIs(again.disk.cells[0] in (0, 1), True)

    def test_what_is_refused_changes_nothing(self):
        disk = Disk((0,) * 900)
        till = start_till(disk, TABLE)
        till.enter(0, (1, 2), 1)
        state, events = state_of(till), disk.events()
        for value in odd_values() + [("line", 0, (1, 2), 1), ("line", 0, (1, 2), 2), ("total", (2,)), ("drop", 2), ("kind", "cup", ()),
                                     ("name", 0, "tea"), ("line", True, (1, 2), 0), ["drop", 0], ("drop", Rude()), ("drop", Yes())]:
            self.assertEqual(raised(till.do, value), NO_DEED)
        for many in (2, 3, 10 ** 30):
            self.assertEqual(raised(till.undo, many), NO_DEEDS)
        till.undo(0)
        self.assertEqual((state_of(till), disk.events()), (state, events))

    def test_start_refused(self):
        # A table that is not good is told first, then cells of no journal, then the lack of room.
        for table in (ring_table(3), ring_table(5)):
            for cells in ((0,) * 900, (0,), (1, 255) * 20):
                disk = Disk(cells)
                self.assertEqual(raised(start_till, disk, table), NO_TABLE)
                self.assertEqual(disk.events(), ())
        broken = (1,) * 40
        self.assertEqual(raised(Journal, Disk(broken)), ("Broken", {"word": "journal"}))
        self.assertEqual(raised(start_till, Disk(broken), TABLE), ("Broken", {"word": "journal"}))
        self.assertEqual(raised(Till, Disk(broken)), ("Broken", {"word": "journal"}))
        for many in (1, 2, 3, 10, 20):
            disk = Disk((0,) * many)
            self.assertEqual(raised(start_till, disk, TABLE), NO_ROOM)
            self.assertEqual(disk.events(), ())

    def test_records_of_no_till(self):
        sheet = Journal(start_till(Disk((0,) * 900), TABLE).disk).records()[0]
        till = start_till(Disk((0,) * 900), TABLE)
        till.do(("line", 0, (-7, 2), -4))
        till.do(("total", (1,)))
        till.do(("kind", "ale", (0, 1)))
        till.do(("name", 0, "zebra"))
        till.do(("drop", 1))
        records = Journal(till.disk).records()
        self.assertEqual(records[0], sheet)
        self.assertEqual(self.left_with(records), state_of(till))
        rng = random.Random(5)
        for wrong in ((), ((),), ((1, 2, 3),), ((0,) * 30,), (tuple(range(40)),), records[1:], (records[1], sheet), records + (sheet,),
                      (sheet, ()), (sheet, (255,)), (sheet, (4,)), (sheet + (0,),), (sheet[:-1],), (sheet, records[1] + (0,)),
                      (sheet, records[5], records[5], records[5])):
            self.assertIsNone(self.left_with(wrong))
        # Whatever octet is another one, there is no till or one of an open sheet.
        for at, record in enumerate(records):
            for place in range(len(record)):
                for octet in {0, 1, 255, record[place] ^ 1, rng.randrange(256)} - {record[place]}:
                    spoilt = record[:place] + (octet,) + record[place + 1:]
                    left = self.left_with(records[:at] + (spoilt,) + records[at + 1:])
                    self.assertTrue(left is None or is_sheet(left[0]) and is_sheet(left[1]))
                short = record[:place]
                self.assertIsNone(self.left_with(records[:at] + (short,) + records[at + 1:]))
        for _ in range(600):
            record = tuple(rng.choice((0, 1, 2, 3, 5, 255)) for _ in range(rng.randint(0, 30)))
            self.assertIsNone(self.left_with((record,)))
            left = self.left_with((sheet, record))
            self.assertTrue(left is None or left[0] == sheet_after_all(left[1], left[2]))

    def left_with(self, records):
        """The state of the till on a disk with some records, None if it is no till."""
        disk = Disk((0,) * 2000)
        Journal(disk).renew(records)
        return state_on(cells_of(disk))

    def test_twelve_kinds_and_totals(self):
        till = start_till(Disk((0,) * 20000), LINE)
        for at in range(12):
            till.enter(at, told(Fraction(10 ** 6, 999983 - at)), 1)
        till.enter(0, (-10 ** 6, 1), 5)
        till.do(("drop", 11))
        till.do(("total", (11,)))
        till.do(("drop", 0))
        till.do(("name", 3, "zzzzzz"))
        till.do(("name", 0, "a"))
        self.assertEqual(state_on(cells_of(till.disk)), state_of(till))
        till.pack()
        self.assertEqual(state_on(cells_of(till.disk)), state_of(till))


class Room(unittest.TestCase):

    def test_never_refused_while_there_is_room(self):
        rng = random.Random(6)
        full = 0
        for table in GOOD[:20]:
            sheet = new_sheet(table)
            for many in (2 * (weight(sheet, ()) + 8), 2 * (weight(sheet, ()) + 8) + 1, 700, 1600):
                if weight(sheet, ()) > many // 2 - 8:
                    continue
                till = start_till(Disk((0,) * many), table)
                for _ in range(60):
                    deed = random_deed(rng, till.sheet)
                    if not is_deed(till.sheet, deed):
                        continue
                    fits = weight(till.begun(), till.deeds() + (deed,)) <= many // 2 - 8
                    before = state_of(till)
                    error = raised(till.do, deed)
                    self.assertIn(error, (None, NO_ROOM))
                    if error is not None:
                        self.assertFalse(fits)
                        self.assertEqual(state_of(till), before)
                        full += 1
                        break
                self.assertEqual(state_on(cells_of(till.disk)), state_of(till))
        self.assertGreater(full, 5)

    def test_bare_room_for_a_sheet(self):
        for table in (Table(("a",), ()), TABLE, LINE, Table(NAMES, (tuple(range(12)),) * 12), Table(("abcdef",), ((0,),) * 12)):
            many = 2 * (weight(new_sheet(table), ()) + 8)
            disk = Disk((0,) * many)
            for _ in range(3):
                self.assertEqual(state_of(start_till(disk, table)), (new_sheet(table), new_sheet(table), ()))
            till = Till(disk)
            till.pack()
            self.assertEqual(state_on(cells_of(disk)), state_of(till))

    def test_full(self):
        disk = Disk((0,) * 300)
        till = start_till(disk, TABLE)
        while raised(till.enter, 0, (1, 3), 0) is None:
            self.assertLess(len(till.deeds()), 300)
        # Shorter deeds may still find room.
        while raised(till.do, ("drop", 2) if len(till.sheet.table.totals) > 2 else ("total", ())) is None:
            self.assertLess(len(till.deeds()), 300)
        state, events = state_of(till), disk.events()
        for call in ((till.enter, 1, (1, 2), 0), (till.do, ("total", ())), (till.do, ("kind", "zebra", ()))):
            self.assertEqual(raised(*call), NO_ROOM)
            self.assertEqual((state_of(till), disk.events()), (state, events))
        # What cannot be done is told first.
        self.assertEqual(raised(till.do, ("drop", 9)), NO_DEED)
        till.undo(len(till.deeds()))
        self.assertEqual(till.enter(0, (1, 1), 1), 1)
        till.pack()
        self.assertEqual(till.deeds(), ())
        till.enter(0, (1, 3), 0)
        self.assertEqual(state_on(cells_of(disk)), state_of(till))

    def test_errors_of_many_digits(self):
        rng = random.Random(7)
        till = start_till(Disk((0,) * 20000), TABLE)
        for turn in range(60):
            for _ in range(8):
                till.enter(rng.randrange(2), told(Fraction(rng.randint(1, 10 ** 6), rng.randint(9 * 10 ** 5, 10 ** 6))), 0)
            till.pack()
        self.assertGreater(digits(till.sheet.errors[0][1]), 900)
        self.assertEqual(state_on(cells_of(till.disk)), state_of(till))
        # It is kept with less room, too, if the digits are counted.
        many = 2 * (weight(till.sheet, ()) + 8)
        packed = Journal(till.disk).records()
        disk = Disk((0,) * many)
        Journal(disk).renew(packed)
        again = Till(disk)
        again.pack()
        self.assertEqual(state_on(cells_of(disk)), (till.sheet, till.sheet, ()))
        # Where the digits have grown so many that no deed finds room, not even behind a pack, nothing changes.
        small, turns = start_till(Disk((0,) * 800), TABLE), 0
        while small.deeds() or not turns:
            small.pack()
            turns += 1
            error = None
            while error is None:
                amount = told(Fraction(rng.randint(1, 10 ** 6), rng.randint(9 * 10 ** 5, 10 ** 6)))
                before = state_of(small)
                error = raised(small.enter, rng.randrange(2), amount, 0)
            self.assertEqual((error, state_of(small)), (NO_ROOM, before))
            self.assertGreater(weight(small.begun(), small.deeds() + (("line", 0, (1, 2), 0),)), 800 // 2 - 8)
        self.assertGreater(turns, 5)
        self.assertEqual(state_on(cells_of(small.disk)), before)


if __name__ == "__main__":
    unittest.main()
