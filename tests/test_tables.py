"""Promises [8] and [9], with [2]: tables, and tables made of others."""

import random
import unittest
from itertools import product

from centsatonce.errors import InvalidTable, Refused
from centsatonce.games import can_keep
from centsatonce.tables import Table, class_numbers, class_of_kind, classes_of, core_of, kind_number, merged
from centsatonce.tables import renamed_table, totals_by_classes, totals_with, with_total, without_kinds
from centsatonce.tables import without_totals
from tests.helpers import NAMES, Rude, Yes, errors_by_total, exact, kind_errors, odd_values, plain_classes, plain_totals
from tests.helpers import raised, random_lines, random_tables, rounded, with_swapped

TABLES = random_tables(8, 150)
FIVE = Table(("bun", "cup", "jam", "pie", "tea"), ((0, 2, 4), (), (2, 4), (3,), (0, 2, 4)))


def table_fault(kinds, totals):
    """What Table raises as at, None if it raises nothing."""
    fault = raised(Table, kinds, totals)
    if fault is None:
        return None
    assert fault[0] == "InvalidTable", fault
    return fault[1]["at"]


class Making(unittest.TestCase):

    def test_kinds(self):
        for kinds in (("a",), ("abcdef",), ("z",), ("a", "b"), ("a", "aa"), ("kinds", "total"), NAMES):
            self.assertIsNone(table_fault(kinds, ()), kinds)
            self.assertEqual(Table(kinds, ()).kinds, kinds)

    def test_wrong_kinds(self):
        wrong = [(), ("",), ("abcdefg",), ("A",), ("a1",), ("a b",), ("a ",), ("a\n",), ("-",), ("a", "a"),
                 ("b", "a"), ("aa", "a"), NAMES + ("zoo",), ["a"], "a", ("a", None), ("a", 1), (1,), (b"a",),
                 {"a": 1}, {"a"}, ("a", ["b"]), ("a", ("b",)), (True,), ("a", "c", "b"), ("`",), ("{",), ("e-",),
                 ("a", Rude()), (Rude(), "b"), (Yes(),), ("a", Yes()), (Rude(), Rude())]
        for kinds in wrong + odd_values():
            for totals in ((), None, (0,), ((0,),), Rude()):
                self.assertEqual(table_fault(kinds, totals), -2)

    def test_totals(self):
        for totals in ((), ((),), ((), ()), ((0,),), ((0,), (0,)), ((1, 0)[:0],), ((0, 1),), ((0, 1),) * 12, ((),) * 12):
            self.assertIsNone(table_fault(("a", "b"), totals), totals)
            self.assertEqual(Table(("a", "b"), totals).totals, totals)

    def test_wrong_totals(self):
        for totals in [[], None, 0, True, "", "ab", [(0,)], {}, set(), range(0), Rude(), Yes(), ((0,),) * 13,
                       ((),) * 13, (None,) * 13, {0: ()}, b"", 1.5, object(), Table]:
            self.assertEqual(table_fault(("a", "b"), totals), -1)

    def test_wrong_total(self):
        wrong = [(2,), (-1,), (0, 0), (1, 0), (0, 1, 2), [0], [], None, 0, True, "0", "", (True,), (False,),
                 (0, True), (False, 1), (0.0,), (0, 1.0), ("a",), (None,), ((0,),), {0}, {0: 1}, range(1), b"",
                 (Rude(),), (Yes(),), (0, Rude()), Rude(), Yes(), (0, 1, 1), (10 ** 30,)]
        for total in wrong + [value for value in odd_values() if not isinstance(value, tuple)]:
            self.assertEqual(table_fault(("a", "b"), (total,)), 0)
            self.assertEqual(table_fault(("a", "b"), ((0,), (), total)), 2)
            self.assertEqual(table_fault(("a", "b"), ((0,), total, total)), 1)
            self.assertEqual(table_fault(("a", "b"), ((0,),) * 11 + (total,)), 11)

    def test_first_wrong_thing(self):
        self.assertEqual(table_fault(("b", "a"), None), -2)
        self.assertEqual(table_fault(("a",), ((1,),) * 13), -1)
        self.assertEqual(table_fault(("a",), ((0,), (1,), [0])), 1)

    def test_by_name(self):
        table = Table(totals=((0,),), kinds=("a",))
        self.assertEqual((table.kinds, table.totals), (("a",), ((0,),)))
        with self.assertRaises(InvalidTable):
            Table(totals=((1,),), kinds=("a",))

    def test_swapped_deep_within(self):
        for at, kinds in enumerate(with_swapped(("a", "b"), None)):
            self.assertEqual(table_fault(kinds, ()), -2)
        for totals in with_swapped(((0,), (0, 1)), True):
            self.assertIn(table_fault(("a", "b"), totals), (-1, 0, 1))


class Equal(unittest.TestCase):

    def test_equal_exactly_if_both_are(self):
        for one in TABLES[:40] + [FIVE]:
            for other in TABLES[:40] + [FIVE]:
                alike = one.kinds == other.kinds and one.totals == other.totals
                self.assertIs(one == other, alike)
                self.assertIs(one != other, not alike)
            self.assertIs(one == Table(one.kinds, one.totals), True)

    def test_to_nothing_else(self):
        for value in odd_values() + [("a", ()), (("a",), ()), FIVE.kinds]:
            if isinstance(value, Table):
                continue
            self.assertIs(FIVE == value, False)
            self.assertIs(FIVE != value, True)

    def test_order_and_names_count(self):
        self.assertNotEqual(Table(("a", "b"), ((0,), (1,))), Table(("a", "b"), ((1,), (0,))))
        self.assertNotEqual(Table(("a", "b"), ((0,),)), Table(("a", "c"), ((0,),)))
        self.assertNotEqual(Table(("a",), ((0,),)), Table(("a",), ((0,), (0,))))


class Classes(unittest.TestCase):

    def test_kind_number(self):
        for at, name in enumerate(FIVE.kinds):
            self.assertEqual(kind_number(FIVE, name), at)
            self.assertEqual(kind_number(name=name, table=FIVE), at)

    def test_no_such_kind(self):
        for name in ["ham", "bu", "bunn", "", "BUN", "bun ", 0, 1, b"bun", ("bun",), ["bun"], Yes(), Rude()] + odd_values():
            self.assertEqual(raised(kind_number, FIVE, name), ("Refused", {"word": "kind"}))

    def test_totals_with(self):
        for table in TABLES:
            for kind in range(len(table.kinds)):
                right = tuple(at for at in range(len(table.totals)) if kind in table.totals[at])
                self.assertEqual(totals_with(table, kind), right)
        self.assertEqual(totals_with(kind=4, table=FIVE), (0, 2, 4))

    def test_classes(self):
        for table in TABLES:
            classes = plain_classes(table)
            self.assertEqual(classes_of(table), tuple(classes))
            self.assertEqual(totals_by_classes(table), tuple(plain_totals(table)))
            numbers = [next((at for at, kinds in enumerate(classes) if kind in kinds), None)
                       for kind in range(len(table.kinds))]
            self.assertEqual(class_numbers(table), tuple(numbers))
            self.assertEqual([class_of_kind(table, kind) for kind in range(len(table.kinds))], numbers)

    def test_total_is_made_of_whole_classes(self):
        for table in TABLES:
            classes = classes_of(table)
            for total, numbers in zip(table.totals, totals_by_classes(table)):
                self.assertEqual(tuple(sorted(kind for number in numbers for kind in classes[number])), total)

    def test_by_least_kinds(self):
        table = Table(("a", "b", "c", "d"), ((1, 3), (0, 2)))
        self.assertEqual(classes_of(table), ((0, 2), (1, 3)))
        self.assertEqual(totals_by_classes(table), ((1,), (0,)))
        self.assertEqual(classes_of(Table(("a", "b"), ((), ()))), ())
        self.assertEqual(class_numbers(Table(("a", "b"), ((1,),))), (None, 0))
        self.assertEqual(class_of_kind(kind=1, table=table), 1)

    def test_example(self):
        self.assertEqual(classes_of(table=FIVE), ((0,), (2, 4), (3,)))
        self.assertEqual(totals_by_classes(table=FIVE), ((0, 1), (), (1,), (2,), (0, 1)))
        self.assertEqual(core_of(table=FIVE).totals, ((0, 1), (1,), (2,)))
        self.assertEqual(class_numbers(table=FIVE), (0, None, 1, 2, 1))


class Changed(unittest.TestCase):

    def test_without_totals(self):
        for table in TABLES[:60]:
            for chosen in product((0, 1), repeat=len(table.totals)):
                out = tuple(at for at, word in enumerate(chosen) if word)
                left = tuple(total for at, total in enumerate(table.totals) if not chosen[at])
                self.assertEqual(without_totals(table, out), Table(table.kinds, left))
        self.assertEqual(without_totals(totals=(0, 1), table=FIVE).totals, FIVE.totals[2:])

    def test_with_total(self):
        for total in ((), (0,), (0, 1, 2, 3, 4), (2, 4)):
            self.assertEqual(with_total(FIVE, total), Table(FIVE.kinds, FIVE.totals + (total,)))
        self.assertEqual(with_total(total=(1,), table=FIVE).totals[-1], (1,))

    def test_wrong_total(self):
        full = Table(FIVE.kinds, ((0,),) * 12)
        wrong = [(5,), (-1,), (0, 0), (1, 0), [0], None, True, (True,), (0, True), (0.0,), "0", Rude(), (Rude(),), Yes()]
        for table in (FIVE, full):
            for total in wrong:
                self.assertEqual(raised(with_total, table, total), ("Refused", {"word": "total"}))
            for total in odd_values():
                if not isinstance(total, tuple):
                    self.assertEqual(raised(with_total, table, total), ("Refused", {"word": "total"}))

    def test_twelve_totals(self):
        eleven = Table(("a",), ((0,),) * 11)
        full = with_total(eleven, ())
        self.assertEqual(len(full.totals), 12)
        for total in ((), (0,)):
            self.assertEqual(raised(with_total, full, total), ("Refused", {"word": "size"}))

    def test_without_kinds(self):
        for table in TABLES[:60]:
            every = range(len(table.kinds))
            for chosen in product((0, 1), repeat=len(table.kinds)):
                out = tuple(kind for kind in every if chosen[kind])
                left = [kind for kind in every if not chosen[kind]]
                if not left:
                    self.assertEqual(raised(without_kinds, table, out), ("Refused", {"word": "kinds"}))
                    continue
                changed = without_kinds(table, out)
                self.assertEqual(changed.kinds, tuple(table.kinds[kind] for kind in left))
                names = [[table.kinds[kind] for kind in total if kind in left] for total in table.totals]
                self.assertEqual([[changed.kinds[kind] for kind in total] for total in changed.totals], names)
        self.assertEqual(without_kinds(kinds=(0, 2), table=FIVE), Table(("cup", "pie", "tea"), ((2,), (), (2,), (1,), (2,))))

    def test_renamed(self):
        rng = random.Random(3)
        for table in TABLES[:60]:
            names = tuple(rng.sample(NAMES, len(table.kinds)))
            changed, numbers = renamed_table(table, names)
            self.assertEqual(changed.kinds, tuple(sorted(names)))
            self.assertEqual(tuple(changed.kinds[number] for number in numbers), names)
            for old, new in zip(table.totals, changed.totals):
                self.assertEqual({changed.kinds[kind] for kind in new}, {names[kind] for kind in old})
            self.assertEqual(renamed_table(table, table.kinds), (table, tuple(range(len(table.kinds)))))
        table = Table(("a", "b", "c"), ((0, 1), (2,)))
        self.assertEqual(renamed_table(names=("z", "x", "y"), table=table), (Table(("x", "y", "z"), ((0, 2), (1,))), (2, 0, 1)))

    def test_wrong_names(self):
        table = Table(("a", "b"), ((0, 1),))
        for names in [("c",), ("c", "d", "e"), ("c", "c"), ["c", "d"], "cd", (), None, ("c", ""), ("c", "D"), ("c", 1),
                      ("c", None), ("c", "seventy"), ("c", ["d"]), {"c": 1, "d": 2}, ("c", Rude()), (Yes(), "c"),
                      (Rude(), Rude()), ("c", True)] + odd_values():
            self.assertEqual(raised(renamed_table, table, names), ("Refused", {"word": "names"}))

    def test_merged(self):
        for table in TABLES:
            classes = plain_classes(table)
            if not classes:
                for call in (merged, core_of):
                    self.assertEqual(raised(call, table), ("Refused", {"word": "kinds"}))
                continue
            whole = merged(table)
            self.assertEqual(whole.kinds, tuple(table.kinds[kinds[0]] for kinds in classes))
            self.assertEqual(whole.totals, tuple(plain_totals(table)))
            core = core_of(table)
            self.assertEqual(core.kinds, whole.kinds)
            self.assertEqual(core.totals, tuple(sorted({total for total in whole.totals if total})))
            self.assertEqual(classes_of(whole), tuple((number,) for number in range(len(classes))))

    def test_no_class(self):
        for table in (Table(("a",), ()), Table(("a", "b"), ((), ()))):
            self.assertRaises(Refused, merged, table)
            self.assertRaises(Refused, core_of, table)

    def test_errors_stay(self):
        rng = random.Random(9)
        for table in TABLES:
            if not classes_of(table):
                continue
            day = rounded(rng, random_lines(rng, table, 10))
            numbers = class_numbers(table)
            replaced = [(numbers[kind], amount, whole) for kind, amount, whole in day if numbers[kind] is not None]
            errors = errors_by_total(table, kind_errors(table, day))
            self.assertEqual(errors_by_total(merged(table), kind_errors(merged(table), replaced)), errors)
            core = core_of(table)
            found = errors_by_total(core, kind_errors(core, replaced))
            sums = dict(zip(totals_by_classes(table), errors))
            self.assertEqual(found, [sums[total] for total in core.totals])
            self.assertTrue(all(exact((0, 1)) == error for total, error in zip(table.totals, errors) if not total))

    def test_who_can_keep_one_can_keep_all(self):
        seen = set()
        for table in random_tables(12, 200, most_kinds=5, most_totals=5, sizes=(1, 2, 2, 3), least_kinds=3):
            if classes_of(table):
                for fractions, length in ((((1, 2),), 4), (((1, 3), (1, 2)), 3)):
                    found = [can_keep(each, fractions, length) for each in (table, merged(table), core_of(table))]
                    self.assertEqual(len(set(found)), 1)
                    seen.add((found[0], merged(table) == table))
        self.assertEqual(len(seen), 4)

    def test_nothing_is_changed(self):
        for table in TABLES[:30]:
            before = (table.kinds, table.totals)
            for call in (classes_of, class_numbers, totals_by_classes):
                self.assertEqual(call(table), call(table))
            with_total(Table(table.kinds, ()), ())
            without_totals(table, ())
            renamed_table(table, table.kinds)
            self.assertEqual((table.kinds, table.totals), before)


if __name__ == "__main__":
    unittest.main()
