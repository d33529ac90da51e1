"""Promises [85], what it says of run_fault, and [86]: claims."""

import random
import unittest
from fractions import Fraction
from itertools import product

from centsatonce.attacks import mirrored
from centsatonce.brief import attack_by
from centsatonce.claims import is_so, not_so, run_fault
from centsatonce.court import Blocks, court, is_good, repainted
from centsatonce.days import choices, errors_behind
from centsatonce.deeds import sheet_after
from centsatonce.derivations import derived_by
from centsatonce.derived import derived_lot
from centsatonce.fewest import quickest_attack
from centsatonce.heldpapers import HeldPaper, LostPaper, held_paper
from centsatonce.knots import Knot, is_knot, odd_ring
from centsatonce.levels import derivation_from, grown
from centsatonce.runs import run_commands, run_with_papers
from centsatonce.sheets import Sheet, new_sheet
from centsatonce.spoils import spoiling
from centsatonce.tables import Table, with_total
from centsatonce.toldpapers import BeatenPaper, ToldPaper, told_paper
from centsatonce.windowdays import window_day
from tests.helpers import OTHERS, Rude, Yes, odd_objects, odd_values, random_fraction, random_lines, random_tables
from tests.helpers import swapped_objects, told, with_swapped
from tests.test_deeds import GOOD, random_sheet
from tests.test_runs import behind, deed_of, plain_results, random_run
from tests.test_spoils import ring_table

TABLE = Table(("cup", "jam", "tea"), ((0, 1), (1, 2)))
RING = ring_table(3)


def some_answers(rng, sheet, commands):
    """Right answers, with any of the allowed results and right papers that the program need not give itself."""
    answers = []
    for command in commands:
        result = rng.choice(plain_results(sheet, command))
        deed = deed_of(sheet, command, command[-1])
        paper = None
        if result == ("lost",):
            paper = longer(rng, sheet.table, quickest_attack(sheet.table, errors_behind(sheet.errors, *deed[1:])))
        elif result == ("late",):
            table = with_total(sheet.table, deed[1])
            paper = longer(rng, table, quickest_attack(table, sheet.errors))
        elif result == ("never",):
            paper = odd_ring(with_total(sheet.table, deed[1])) or court(with_total(sheet.table, deed[1]))
        answers.append((result, paper))
        sheet = behind(sheet, command, result)
    return tuple(answers)


def longer(rng, table, attack):
    """The attack itself, or one that begins with a line of a kind that makes no difference, if there is one."""
    free = [kind for kind in range(len(table.kinds)) if not any(kind in total for total in table.totals)]
    if free and rng.random() < 0.5:
        return ("line", rng.choice(free), (1, 2), attack, attack)
    return attack


class Faults(unittest.TestCase):

    def test_right_answers(self):
        rng = random.Random(1)
        other = 0
        for table in GOOD[:60]:
            sheet = random_sheet(rng, table)
            commands = random_run(rng, sheet, 12)
            self.assertIsNone(run_fault(sheet, commands, run_with_papers(sheet, commands)))
            for _ in range(3):
                answers = some_answers(rng, sheet, commands)
                self.assertIsNone(run_fault(sheet, commands, answers))
                self.assertIs(is_so(("run", sheet, commands, answers)), True)
                other += tuple(result for result, _ in answers) != run_commands(sheet, commands)
        self.assertGreater(other, 60)

    def test_first_fault(self):
        rng = random.Random(2)
        wrong = (("whole", 99), ("whole", 0.0), ("whole", True), ("did",), ("yes",), ("lost",), ("late",), ("never",), ("refused",),
                 ("errors", ()), ("errors", ((9, 1),)), (), None, "did", ["did"], ("did", 1), ("whole",), ("done",), Rude(), Yes())
        for table in GOOD[:30]:
            sheet = random_sheet(rng, table)
            commands = random_run(rng, sheet, 8)
            answers = some_answers(rng, sheet, commands)
            for at in range(8):
                now = sheet
                for command, (result, _) in zip(commands[:at], answers):
                    now = behind(now, command, result)
                right = plain_results(now, commands[at])
                for result in wrong:
                    if type(result) is tuple and any(result == one and kinds_of(result) == kinds_of(one) for one in right):
                        continue
                    spoilt = answers[:at] + ((result, answers[at][1]),) + answers[at + 1:]
                    self.assertEqual(run_fault(sheet, commands, spoilt), at, (commands[at], result))
                    # What comes behind the first fault does not matter.
                    self.assertEqual(run_fault(sheet, commands, spoilt[:at + 1]), at)
                    self.assertEqual(run_fault(sheet, commands, spoilt[:at + 1] + (None,) * 20), at)
                for paper in ((), 0, False, "", Rude(), Yes(), ("off", 99), ("off", True), Knot("three", 0, (0, 1)), ("line",)):
                    spoilt = answers[:at] + ((answers[at][0], paper),) + answers[at + 1:]
                    fault = run_fault(sheet, commands, spoilt)
                    if answers[at][0] == ("never",) and isinstance(paper, Knot):
                        deed = deed_of(now, commands[at])
                        self.assertIs(fault is None, is_knot(with_total(now.table, deed[1]), paper))
                    else:
                        self.assertEqual(fault, at)
                if answers[at][1] is not None:
                    self.assertEqual(run_fault(sheet, commands, answers[:at] + ((answers[at][0], None),)), at)
                for pair in (answers[at] + (None,), answers[at][:1], list(answers[at]), None, (), 0, Rude(), Yes()):
                    self.assertEqual(run_fault(sheet, commands, answers[:at] + (pair,) + answers[at + 1:]), at)

    def test_lacking_and_too_much(self):
        sheet = new_sheet(TABLE)
        commands = (("line", "cup", (1, 2)), ("errors",), ("drop", 7))
        answers = run_with_papers(sheet, commands)
        for many in range(3):
            self.assertEqual(run_fault(sheet, commands, answers[:many]), many)
        for more in (answers[:1], (None,), (Rude(), Yes())):
            self.assertEqual(run_fault(sheet, commands, answers + more), 3)
        self.assertIsNone(run_fault(answers=answers, commands=commands, sheet=sheet))
        self.assertIsNone(run_fault(sheet, (), ()))
        self.assertEqual(run_fault(sheet, (), (None,)), 0)
        for value in odd_values():
            if not isinstance(value, tuple):
                self.assertEqual(run_fault(sheet, commands, value), 0)
                self.assertEqual(run_fault(sheet, (), value), 0)
            else:
                self.assertEqual(run_fault(sheet, commands, value), 0)

    def test_errors_are_told_as_fractions(self):
        sheet = Sheet(TABLE, ((1, 2), (0, 1), (0, 1)))
        commands = (("errors",),)
        self.assertIsNone(run_fault(sheet, commands, ((("errors", ((1, 2), (0, 1))), None),)))
        for errors in (((2, 4), (0, 1)), ((1, 2), (0, True)), ((1, 2), (False, 1)), ((1, 2), (0.0, 1)), ((1, 2),), [(1, 2), (0, 1)],
                       ((1, 2), [0, 1]), ((1, 2), (0, 1), (0, 1)), ((1, 2), (0, 2)), ((1, 2), (Rude(), 1)), ((1, 2), (Yes(), 1)),
                       ((1, 2), (1, 3)), None, ()):
            self.assertEqual(run_fault(sheet, commands, ((("errors", errors), None),)), 0)

    def test_wholes_that_the_program_would_not_take(self):
        sheet = new_sheet(TABLE)
        commands = (("line", "cup", (1, 2)), ("line", "cup", (1, 2)), ("line", "jam", (1, 2)))
        seen = set()
        for wholes in product((-1, 0, 1, 2), repeat=3):
            answers = tuple((("whole", whole), None) for whole in wholes)
            fault = run_fault(sheet, commands, answers)
            now, expected = sheet, None
            for at, (command, whole) in enumerate(zip(commands, wholes)):
                if ("whole", whole) not in plain_results(now, command):
                    expected = at
                    break
                now = behind(now, command, ("whole", whole))
            self.assertEqual(fault, expected)
            seen.add(fault)
        self.assertEqual(seen, {None, 0, 1, 2})

    def test_long_attacks_and_other_knots(self):
        # A total may be refused for ever by any right knot, a line by any attack from the errors behind it.
        sheet = new_sheet(Table(("a", "b", "c", "d"), ((0,), (0, 1), (2, 3))))
        never = (("add", ("a", "b", "c")),)
        behind_it = with_total(sheet.table, (0, 1, 2))
        knots = [Knot("three", 3, pair) for pair in ((0, 1), (0, 2), (1, 2))] + [Knot("ring", (0, 1, 2), (0, 1, 2)), court(behind_it)]
        for knot in knots:
            fault = run_fault(sheet, never, ((("never",), knot),))
            self.assertIs(fault is None, is_knot(behind_it, knot))
        sheet = Sheet(TABLE, ((1, 2), (0, 1), (0, 1)))
        lost = (("may", "jam", (1, 2), 1),)
        for attack, right in ((("off", 0), True), (("off", 1), False), (("line", 0, (1, 2), ("off", 0), ("off", 0)), False),
                              (("line", 2, (1, 2), ("off", 0), ("off", 0)), True), (("off", 2), False), (None, False),
                              (("line", 2, (1, 2), ("off", 1), ("off", 0)), True), (mirrored(("off", 0)), True)):
            self.assertEqual(run_fault(sheet, lost, ((("lost",), attack),)), None if right else 0)


def kinds_of(value):
    """The kinds of a value and of its items."""
    return [type(value)] + [kinds_of(item) for item in value] if isinstance(value, tuple) else type(value)


def statements(rng):
    """Statements that are so, of all words."""
    found = []
    tables = random_tables(rng.randint(0, 10 ** 6), 14, most_kinds=4, most_totals=4, sizes=(0, 1, 2, 2, 3))
    tables += random_tables(rng.randint(0, 10 ** 6), 12, most_kinds=4, most_totals=6, sizes=(2, 2, 3), least_kinds=3)
    for table in tables:
        verdict = court(table)
        errors = tuple(random_fraction(rng, 2, (1, 2, 3)) for _ in table.kinds)
        if isinstance(verdict, Blocks):
            found.append(("blocks", table, verdict))
            for at in range(len(verdict.pieces)):
                found.append(("blocks", table, repainted(verdict, at)))
            lines = random_lines(rng, table, rng.randint(0, 4))
            found.append(("day", table, verdict, window_day(table, verdict, lines, (0,) * len(lines))))
            sheet = random_sheet(rng, table)
            commands = random_run(rng, sheet, 4)
            answers = some_answers(rng, sheet, commands)
            found.append(("run", sheet, commands, answers))
            found.append(("pair", sheet, commands[0]) + answers[0])
        else:
            found.append(("knot", table, verdict))
            derivation = spoiling(table, verdict)
            found.append(("derived", table, derivation, derived_by(table, derivation)))
            found.append(("attack", table, ((0, 1),) * len(table.kinds), attack_by(table, verdict)))
        attack = quickest_attack(table, errors)
        if attack is not None:
            found.append(("attack", table, errors, attack))
        found.append(("held", table, errors, held_paper(table, errors)))
        if derived_lot(table)[0] == "closed":
            sources = grown(table)[1]
            for reckoning in derived_lot(table)[1][:3]:
                found.append(("derived", table, derivation_from(sources, reckoning), reckoning))
        sequence = tuple(rng.randrange(len(table.kinds)) for _ in range(rng.choice((0, 3, 6, 12, 16))))
        paper = told_paper(table, sequence)
        found.append(("told" if isinstance(paper, ToldPaper) else "beaten", table, sequence, paper))
    return found


class Statements(unittest.TestCase):

    def test_so(self):
        rng = random.Random(3)
        seen = {}
        for _ in range(6):
            for statement in statements(rng):
                self.assertIs(is_so(value=statement), True, statement[0])
                seen[statement[0]] = seen.get(statement[0], 0) + 1
        self.assertEqual(sorted(seen), ["attack", "beaten", "blocks", "day", "derived", "held", "knot", "pair", "run", "told"])
        self.assertGreater(min(seen.values()), 4, seen)

    def test_another_table_or_word(self):
        rng = random.Random(4)
        other = Table(("a", "b", "c", "d", "e"), ((0, 1, 2), (3,), (4,)))
        bad = ring_table(3)
        for statement in statements(rng):
            for word in ("blocks", "knot", "derived", "attack", "day", "told", "beaten", "held", "pair", "run", "so", "", None, Yes()):
                if word != statement[0] and not isinstance(word, Yes):
                    self.assertIs(is_so((word,) + statement[1:]), False, (word, statement))
            self.assertIs(is_so((Yes(),) + statement[1:]), False)
            for value in (None, other.kinds, (other,), Rude(), Yes(), ("a",), 0):
                self.assertIs(is_so((statement[0], value) + statement[2:]), False)
            if statement[0] in ("pair", "run"):
                self.assertIs(is_so((statement[0], Sheet(bad, ((0, 1),) * 3)) + statement[2:]), False)
                self.assertIs(is_so((statement[0], Sheet(statement[1].table, ((9, 1),) * 9)) + statement[2:]), False)
                self.assertIs(is_so((statement[0], statement[1].table) + statement[2:]), False)
            for more in (statement + (None,), statement[:-1], list(statement), statement[1:], (statement,)):
                self.assertIs(is_so(more), False)

    def test_not_so_at_any_place(self):
        rng = random.Random(5)
        some = {}
        for statement in statements(rng):
            some.setdefault(statement[0], statement)
        odd = (Rude(), Yes(), 1.5, "Tea", [], {}, b"x")
        for word, statement in some.items():
            for other in odd:
                for at in range(2, len(statement)):
                    if statement[at] is None and other is None:
                        continue
                    for swapped in with_swapped(statement[at], other):
                        self.assertIs(is_so(statement[:at] + (swapped,) + statement[at + 1:]), False, (word, at))

    def test_true_and_false_are_no_numbers(self):
        line = ("line", 0, (1, 2), ("off", 0), ("off", 0))
        one = Table(("cup",), ((0,),))
        blocks = court(one)
        for value, right in [
                (("blocks", one, Blocks((1,), ((0,),))), True), (("blocks", one, Blocks((True,), ((0,),))), False),
                (("blocks", one, Blocks((1,), ((False,),))), False), (("attack", one, ((1, 1),), ("off", 0)), True),
                (("attack", one, ((1, 1),), ("off", False)), False), (("attack", one, ((1, True),), ("off", 0)), False),
                (("attack", one, ((1, 1),), line), False), (("attack", one, ((3, 2),), line), True),
                (("attack", one, ((2, 2),), ("off", 0)), False), (("attack", one, [(1, 1)], ("off", 0)), False),
                (("attack", one, ((1, 1), (0, 1)), ("off", 0)), False), (("attack", one, (), ("off", 0)), False),
                (("derived", one, (("total", 0, 1),), (1,)), True), (("derived", one, (("total", 0, True),), (1,)), False),
                (("derived", one, (("total", 0, 1),), (True,)), False), (("derived", one, (("total", 0, -1),), (1,)), False),
                (("derived", one, (("total", 0, 1),), [1]), False), (("derived", one, (), (1,)), False),
                (("day", one, blocks, ((0, (1, 2), 1),)), True), (("day", one, blocks, ((0, (1, 2), True),)), False),
                (("day", one, blocks, ((0, (1, 2), 1), (0, (1, 2), 1))), False), (("day", one, Blocks((1,), ()), ()), False),
                (("day", one, blocks, ()), True), (("day", one, None, ()), False), (("day", one, blocks, []), False),
                (("told", one, (0, 0), told_paper(one, (0, 0))), True), (("told", one, (0, False), told_paper(one, (0, 0))), False),
                (("told", one, [0, 0], told_paper(one, (0, 0))), False), (("told", one, (0, 1), told_paper(one, (0, 0))), False),
                (("told", one, (0, -1), told_paper(one, (0, 0))), False), (("told", one, (0,), told_paper(one, (0, 0))), False),
                (("beaten", one, (0, 0), told_paper(one, (0, 0))), False),
                (("held", one, ((1, 2),), HeldPaper(blocks, ((0, 1),))), True), (("held", one, ((1, 1),), LostPaper((0, 1), (0,))), True),
                (("held", one, ((True, 2),), HeldPaper(blocks, ((0, 1),))), False),
                (("held", one, ((1, 2),), blocks), False), (("held", one, None, HeldPaper(blocks, ((0, 1),))), False),
                (("pair", new_sheet(one), ("line", "cup", (1, 2)), ("whole", 1), None), True),
                (("pair", new_sheet(one), ("line", "cup", (1, 2)), ("whole", True), None), False),
                (("pair", new_sheet(one), ("line", "cup", (2, 4)), ("whole", 1), None), False),
                (("pair", new_sheet(one), ["drop", 3], ("refused",), None), False),
                (("pair", new_sheet(one), ("drop", 3), ("refused",), None), True),
                (("pair", new_sheet(one), ("drop", 13), ("refused",), None), False),
                (("pair", new_sheet(one), ("drop", 3), ("refused",), ()), False),
                (("run", new_sheet(one), (), ()), True), (("run", new_sheet(one), (), []), False), (("run", new_sheet(one), [], ()), False),
                (("run", new_sheet(one), (None,), ()), False), (("run", new_sheet(one), (("errors",),), ()), False),
                (("run", new_sheet(one), (("errors",),), ((("errors", ((0, 1),)), None),)), True),
                (("run", new_sheet(one), (("errors",),), ((("errors", ((0, 1),)), 0),)), False)]:
            self.assertIs(is_so(value), right, value)

    def test_limits(self):
        one = Table(("cup", "tea"), ((0,),))
        for many, right in ((400, True), (401, False)):
            sequence = (0, 1) * (many // 2) + (0,) * (many % 2)
            self.assertIs(is_so(("told", one, sequence, told_paper(one, sequence))), right)
            day = ((0, (1, 1), 1),) * many
            self.assertIs(is_so(("day", one, court(one), day)), right)
        sequence = (0, 1, 2) * 133
        for more, right in (((0,), True), ((0, 1), False)):
            paper = told_paper(RING, sequence + more)
            self.assertIsInstance(paper, BeatenPaper)
            self.assertIs(is_so(("beaten", RING, sequence + more, paper)), right)
        self.assertIs(is_so(("day", one, court(one), ((0, (10 ** 6, 1), 10 ** 6),))), True)
        self.assertIs(is_so(("day", one, court(one), ((0, (10 ** 6 + 1, 1), 10 ** 6 + 1),))), False)
        long = told(Fraction(10 ** 3999 + 7, 10 ** 3999))
        self.assertIs(is_so(("attack", one, (long, (0, 1)), ("off", 0))), True)
        self.assertIs(is_so(("held", one, ((-long[0], long[1]), long), LostPaper((0, 1), (0,)))), True)
        self.assertIs(is_so(("held", one, ((long[1] - 9, long[1]), long), held_paper(one, ((long[1] - 9, long[1]), long)))), True)

    def test_other_values(self):
        self.assertIs(is_so(()), False)
        for value in odd_values():
            self.assertIs(is_so(value), False)
            for word in ("blocks", "knot", "derived", "attack", "day", "told", "beaten", "held", "pair", "run"):
                for many in (1, 2, 3, 4):
                    self.assertIs(is_so((word,) + (value,) * many), False)
                    self.assertIs(is_so((word, TABLE) + (value,) * many), False)
                    self.assertIs(is_so((word, new_sheet(TABLE)) + (value,) * many), False)
        for value in odd_objects(Sheet, 2) + odd_objects(Blocks, 2) + odd_objects(Knot, 3) + odd_objects(ToldPaper, 1):
            for word in ("blocks", "knot", "told", "held", "pair", "run"):
                self.assertIs(is_so((word, TABLE, value)), False)
                self.assertIs(is_so((word, TABLE, (0,), value)), False)
                self.assertIs(is_so((word, value, (), ())), False)
                self.assertIs(is_so((word, value, ("errors",), ("errors", ()), None)), False)

    def test_spoilt_sheets(self):
        sheet = Sheet(TABLE, ((1, 2), (0, 1), (1, 3)))
        commands = (("errors",),)
        answers = run_with_papers(sheet, commands)
        self.assertIs(is_so(("run", sheet, commands, answers)), True)
        for other in OTHERS:
            for value in swapped_objects(Sheet, (TABLE, sheet.errors), other):
                self.assertIs(is_so(("run", value, commands, answers)), False)

    def test_not_so(self):
        rng = random.Random(6)
        for _ in range(4):
            right = statements(rng)
            values, expected = [], []
            for statement in right:
                if rng.random() < 0.4:
                    expected.append(len(values))
                    values.append(rng.choice((None, statement[:-1], (statement,), Rude(), Yes(), ("so",), 0)))
                values.append(statement)
            self.assertEqual(not_so(tuple(values)), tuple(expected))
        self.assertEqual(not_so(values=()), ())
        self.assertEqual(not_so((None, ("run", new_sheet(TABLE), (), ()), 5)), (0, 2))


class Rests(unittest.TestCase):

    def test_whatever_answers_are_taken(self):
        # Behind answers without a fault the sheet is open, and the next line can come.
        rng = random.Random(7)
        for table in GOOD[:40]:
            sheet = random_sheet(rng, table)
            commands = random_run(rng, sheet, 10)
            answers = some_answers(rng, sheet, commands)
            self.assertIsNone(run_fault(sheet, commands, answers))
            for command, (result, _) in zip(commands, answers):
                sheet = behind(sheet, command, result)
            self.assertTrue(is_good(sheet.table))
            amount = random_fraction(rng)
            kind = rng.randrange(len(sheet.table.kinds))
            can = [whole for whole in choices(amount)
                   if is_so(("pair", sheet, ("line", sheet.table.kinds[kind], amount), ("whole", whole), None))]
            self.assertTrue(can)
            self.assertEqual(sheet_after(sheet, ("line", kind, amount, can[0])).table, sheet.table)


if __name__ == "__main__":
    unittest.main()
