"""Promises [78] and [79]: deeds, and that no sheet is ever stuck."""

import random
import unittest
from fractions import Fraction
from itertools import combinations

from centsatonce.court import court, is_good
from centsatonce.days import choices, totals_by
from centsatonce.deeds import is_deed, line_deed, open_totals, sheet_after, sheet_after_all
from centsatonce.derived import derived_lot
from centsatonce.reckonings import is_off
from centsatonce.sheets import Sheet, is_sheet, new_sheet
from centsatonce.tables import Table, with_total
from tests.helpers import NAMES, Rude, Yes, exact, odd_values, raised, random_fraction, random_tables, told
from tests.helpers import with_swapped
from tests.test_window import inside_errors, is_plain_inside

GOOD = [table for table in random_tables(78, 200, most_kinds=5, most_totals=5, sizes=(0, 1, 2, 2, 2)) if is_good(table)]
LINE = Table(NAMES, tuple((at, at + 1) for at in range(11)) + ((11,),))
TABLE = Table(("cup", "tea"), ((0,), (0, 1)))
SIZE = ("Refused", {"word": "size"})


def named_errors(sheet):
    """A dict from the names of the kinds to their errors."""
    return dict(zip(sheet.table.kinds, map(exact, sheet.errors)))


def named_totals(sheet):
    return [{sheet.table.kinds[kind] for kind in total} for total in sheet.table.totals]


def plain_after(sheet, deed):
    """The names' errors and the totals behind a deed, by the words of the promise."""
    names, totals, errors = sheet.table.kinds, named_totals(sheet), named_errors(sheet)
    if deed[0] == "line":
        errors[names[deed[1]]] += deed[3] - exact(deed[2])
    elif deed[0] == "total":
        totals.append({names[kind] for kind in deed[1]})
    elif deed[0] == "drop":
        del totals[deed[1]]
    elif deed[0] == "kind":
        errors[deed[1]] = Fraction(0)
        for total in deed[2]:
            totals[total].add(deed[1])
    else:
        errors[deed[2]] = errors.pop(names[deed[1]])
        totals = [{deed[2] if name == names[deed[1]] else name for name in total} for total in totals]
    return errors, totals


def is_open_behind(sheet, deed):
    """Whether the sheet behind a deed is open."""
    errors, totals = plain_after(sheet, deed)
    names = tuple(sorted(errors))
    table = Table(names, tuple(tuple(sorted(names.index(name) for name in total)) for total in totals))
    return is_good(table) and is_plain_inside(table, court(table), tuple(told(errors[name]) for name in names))


def random_deed(rng, sheet):
    """A deed of any of the five words, one that can be done or not."""
    table = sheet.table
    word = rng.choice(("line", "total", "drop", "kind", "name"))
    kind = rng.randrange(len(table.kinds))
    if word == "line":
        amount = random_fraction(rng, 6)
        return (word, kind, amount, rng.choice(choices(amount)))
    if word == "total":
        return (word, tuple(sorted(rng.sample(range(len(table.kinds)), rng.randint(0, min(3, len(table.kinds)))))))
    if word == "drop":
        return (word, rng.randrange(len(table.totals) + 1))
    if word == "kind":
        many = len(table.totals)
        return (word, rng.choice(NAMES), tuple(sorted(rng.sample(range(many), rng.randint(0, min(2, many))))))
    return (word, kind, rng.choice(NAMES))


def is_told(table, deed):
    """Whether a well formed deed fits a table, whatever is open behind it."""
    if deed[0] == "total":
        return len(table.totals) < 12
    if deed[0] == "drop":
        return deed[1] < len(table.totals)
    if deed[0] == "kind":
        return len(table.kinds) < 12 and deed[1] not in table.kinds
    return deed[0] == "line" or deed[2] not in table.kinds


def random_sheet(rng, table):
    return Sheet(table, inside_errors(rng, table, court(table)))


class Deeds(unittest.TestCase):

    def test_one_after_another(self):
        rng = random.Random(1)
        seen = {}
        for table in GOOD[:80]:
            sheet, done = new_sheet(table), []
            for _ in range(25):
                deed = random_deed(rng, sheet)
                right = is_told(sheet.table, deed) and is_open_behind(sheet, deed)
                self.assertIs(is_deed(sheet, deed), right)
                seen[deed[0], right] = seen.get((deed[0], right), 0) + 1
                if right:
                    behind = sheet_after(sheet, deed)
                    self.assertIs(is_sheet(behind), True)
                    self.assertEqual((named_errors(behind), named_totals(behind)), plain_after(sheet, deed))
                    self.assertTrue(all(abs(exact(error)) < 1 for error in totals_by(behind.table, behind.errors)))
                    sheet = behind
                    done.append(deed)
            self.assertEqual(sheet_after_all(new_sheet(table), tuple(done)), sheet)
        self.assertEqual(len(seen), 10)
        self.assertGreater(min(seen.values()), 20, seen)

    def test_both_wholes(self):
        rng = random.Random(2)
        for table in GOOD:
            sheet = random_sheet(rng, table)
            for kind in range(len(table.kinds)):
                amount = random_fraction(rng)
                can = [whole for whole in choices(amount) if is_open_behind(sheet, ("line", kind, amount, whole))]
                self.assertTrue(can)
                low, high = choices(amount)[0], choices(amount)[-1]
                for whole in range(low - 1, high + 2):
                    self.assertIs(is_deed(sheet, ("line", kind, amount, whole)), whole in can)
                for wish in (low - 9, low, high, high + 9, -10 ** 30, 10 ** 30):
                    nearest = min(can, key=lambda whole: abs(whole - wish))
                    self.assertEqual(line_deed(sheet, kind, amount, wish), ("line", kind, amount, nearest))

    def test_any_total_can_be_given_up(self):
        rng = random.Random(3)
        for table in GOOD:
            sheet = random_sheet(rng, table)
            for total in range(len(table.totals)):
                self.assertIs(is_deed(sheet, ("drop", total)), True)
                self.assertIs(is_sheet(sheet_after(sheet, ("drop", total))), True)

    def test_all_lots_of_kinds(self):
        rng = random.Random(4)
        seen = {}
        for table in GOOD:
            if len(table.kinds) > 4:
                continue
            sheet = random_sheet(rng, table)
            right = []
            for many in range(len(table.kinds) + 1):
                for lot in combinations(range(len(table.kinds)), many):
                    with_it = with_total(table, lot)
                    good = is_good(with_it)
                    word, derived = derived_lot(with_it)
                    self.assertIs(good, word == "closed")
                    can = good and not any(is_off(with_it, one, sheet.errors) for one in derived)
                    self.assertIs(is_deed(sheet, ("total", lot)), can)
                    self.assertIs(is_open_behind(sheet, ("total", lot)), can)
                    if can:
                        right.append(lot)
                    seen[good, can] = seen.get((good, can), 0) + 1
            self.assertEqual(open_totals(sheet), tuple(sorted(right)))
        self.assertEqual(sorted(seen), [(False, False), (True, False), (True, True)])
        self.assertGreater(min(seen.values()), 50, seen)

    def test_kinds_into_all_lots_of_totals(self):
        rng = random.Random(5)
        for table in GOOD:
            sheet = random_sheet(rng, table)
            for many in range(min(3, len(table.totals)) + 1):
                for lot in combinations(range(len(table.totals)), many):
                    for name in ("aa", "zz", table.kinds[0] + "x"):
                        deed = ("kind", name, lot)
                        self.assertIs(is_deed(sheet, deed), is_open_behind(sheet, deed))

    def test_examples(self):
        sheet = new_sheet(Table(("cup", "tea"), ((0,),)))
        behind = sheet_after(deed=("line", 0, (7, 2), 4), sheet=sheet)
        self.assertEqual(behind.errors, ((1, 2), (0, 1)))
        self.assertEqual(line_deed(wish=3, amount=(5, 2), kind=0, sheet=behind), ("line", 0, (5, 2), 2))
        self.assertEqual(open_totals(sheet=behind), ((), (0,), (0, 1), (1,)))
        self.assertIs(is_deed(value=("name", 0, "zebra"), sheet=behind), True)
        named = sheet_after(behind, ("name", 0, "zebra"))
        self.assertEqual((named.table.kinds, named.table.totals, named.errors), (("tea", "zebra"), ((1,),), ((0, 1), (1, 2))))
        more = sheet_after(named, ("kind", "ale", (0,)))
        self.assertEqual((more.table.kinds, more.table.totals, more.errors),
                         (("ale", "tea", "zebra"), ((0, 2),), ((0, 1), (0, 1), (1, 2))))
        self.assertEqual(sheet_after_all(deeds=(("name", 0, "zebra"), ("kind", "ale", (0,))), sheet=behind), more)
        self.assertEqual(sheet_after_all(behind, ()), behind)
        late = Sheet(Table(("a", "b"), ((0, 1),)), ((5, 1), (-5, 1)))
        self.assertIs(is_sheet(late), True)
        self.assertEqual(open_totals(late), ((), (0, 1)))

    def test_twelve(self):
        names = NAMES[:11]
        full = new_sheet(Table(NAMES, ((0,),) * 12))
        self.assertIs(is_deed(full, ("kind", "zz", ())), False)
        self.assertIs(is_deed(full, ("total", (0,))), False)
        self.assertIs(is_deed(full, ("total", ())), False)
        self.assertIs(is_deed(full, ("drop", 11)), True)
        self.assertIs(is_deed(full, ("drop", 12)), False)
        self.assertIs(is_deed(full, ("name", 11, "zz")), True)
        eleven = new_sheet(Table(names, ((0,),) * 11))
        self.assertIs(is_deed(eleven, ("kind", "zz", ())), True)
        self.assertIs(is_deed(eleven, ("kind", "zz", tuple(range(11)))), True)
        self.assertIs(is_deed(eleven, ("total", (0,))), True)
        self.assertEqual(len(sheet_after(eleven, ("kind", "aa", (0, 10))).table.kinds), 12)
        self.assertEqual(len(sheet_after(eleven, ("total", ())).table.totals), 12)

    def test_six_and_seven_kinds(self):
        for many, totals, expected in ((6, ((0,),), None), (7, ((0,),), SIZE), (6, ((0,),) * 12, None), (7, ((0,),) * 12, SIZE),
                                       (12, (), SIZE)):
            sheet = new_sheet(Table(NAMES[:many], totals))
            self.assertEqual(raised(open_totals, sheet), expected)
            if expected is None:
                self.assertEqual(len(open_totals(sheet)), 0 if len(totals) == 12 else 64)

    def test_four_hundred(self):
        rng = random.Random(6)
        sheet, deeds = new_sheet(LINE), []
        for at in range(400):
            amount = told(Fraction(rng.randint(-10 ** 6, 10 ** 6), rng.randint(1, 10 ** 6)))
            deed = line_deed(sheet, rng.randrange(12), amount, rng.randint(-3, 3))
            self.assertIs(is_deed(sheet, deed), True)
            sheet = sheet_after(sheet, deed)
            deeds.append(deed)
        self.assertEqual(sheet_after_all(new_sheet(LINE), tuple(deeds)), sheet)
        self.assertIs(is_sheet(sheet), True)


class AnyValue(unittest.TestCase):

    def test_nearly_deeds(self):
        sheet = new_sheet(Table(("cup", "jam", "tea"), ((0,), (0, 1))))
        for value, right in [
                (("line", 0, (1, 2), 0), True), (("line", 0, (1, 2), 2), False), (("line", 3, (1, 2), 0), False),
                (("line", -1, (1, 2), 0), False), (("line", 0, (2, 4), 0), False), (("line", 0, (1, 2)), False),
                (("line", 0, (1, 2), 0, 0), False), (("line", 0, (1, 2), True), False), (("line", 0, (1, 2), 0.0), False),
                (("line", 0, (10 ** 6, 1), 10 ** 6), True), (("line", 0, (10 ** 6 + 1, 1), 10 ** 6 + 1), False),
                (("line", 0, (1, 10 ** 6), 0), True), (("line", 0, (1, 10 ** 6 + 1), 0), False),
                (("total", (0, 1)), True), (("total", (1, 0)), False), (("total", (0, 0)), False), (("total", (3,)), False),
                (("total", [0]), False), (("total",), False), (("total", (0,), 0), False), (("total", (0, 1, 2)), False),
                (("drop", 1), True), (("drop", 2), False), (("drop", -1), False), (("drop", True), False), (("drop", (1,)), False),
                (("kind", "ale", (0, 1)), True), (("kind", "ale", ()), True), (("kind", "tea", ()), False),
                (("kind", "ale", (1, 0)), False), (("kind", "ale", (2,)), False), (("kind", "Ale", ()), False),
                (("kind", "abcdefg", ()), False), (("kind", "", ()), False), (("kind", "ale", [0]), False), (("kind", "ale"), False),
                (("name", 0, "ale"), True), (("name", 0, "cup"), False), (("name", 0, "tea"), False), (("name", 3, "ale"), False),
                (("name", "cup", "ale"), False), (("name", 0, 0), False), (("name", 0), False), (("undo", 1), False),
                (["drop", 1], False), ("drop", False), ((), False), (("errors",), False)]:
            self.assertIs(is_deed(sheet, value), right, value)

    def test_other_values(self):
        sheet = new_sheet(Table(("cup", "jam", "tea"), ((1,), (1, 2))))
        rights = (("line", 1, (7, 2), 3), ("total", (1, 2)), ("drop", 1), ("kind", "ale", (0, 1)), ("name", 2, "ale"))
        for right in rights:
            self.assertIs(is_deed(sheet, right), True)
            for other in (True, False, None, 1.0, "", [], {}, -1, 9, 10 ** 30, Rude(), Yes(), "1", ((),)):
                for value in with_swapped(right, other):
                    self.assertIs(is_deed(sheet, value), False)
        for value in odd_values():
            self.assertIs(is_deed(sheet, value), False)
            for word in ("line", "total", "drop", "kind", "name"):
                self.assertIs(is_deed(sheet, (word, value)), False)
                self.assertIs(is_deed(sheet, (word, value, value)), False)
                self.assertIs(is_deed(sheet, (word, value, value, value)), False)


if __name__ == "__main__":
    unittest.main()
