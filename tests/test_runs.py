"""Promises [83] and [84], and of [85] what it says of run_with_papers."""

import random
import unittest
from fractions import Fraction

from centsatonce.attacks import height_of, is_attack_from
from centsatonce.commands import read_commands, show_commands
from centsatonce.court import is_good
from centsatonce.days import choices, errors_behind, totals_by
from centsatonce.deeds import is_deed, sheet_after
from centsatonce.knots import is_knot
from centsatonce.runs import run_commands, run_script, run_with_papers, sheet_of_run, show_result
from centsatonce.sheets import Sheet, is_sheet, new_sheet
from centsatonce.tables import Table, with_total
from centsatonce.window import allowed
from centsatonce.court import court
from tests.helpers import NAMES, exact, odd_values, raised, random_fraction
from tests.test_deeds import GOOD, random_sheet

WORDS = ("line", "line", "line", "total", "drop", "kind", "name", "errors", "may", "may", "add", "add")
TABLE = Table(("cup", "jam", "tea"), ((0, 1), (1, 2)))


def random_command(rng, sheet):
    """A command of any word, with names and numbers that are there or not, also twice."""
    names = sheet.table.kinds + ("zebra",)
    word = rng.choice(WORDS)
    name = rng.choice(names)
    if word in ("line", "may"):
        amount = random_fraction(rng, 6)
        if word == "line":
            return (word, name, amount)
        return (word, name, amount, rng.choice(choices(amount)) + rng.choice((0, 0, 0, 1)))
    if word in ("total", "add"):
        chosen = rng.sample(names, min(len(names), rng.choice((0, 1, 1, 2, 2, 3))))
        if chosen and rng.random() < 0.1:
            chosen.append(chosen[0])
        return (word, tuple(chosen))
    if word == "drop":
        return (word, rng.randint(0, 4))
    if word == "kind":
        numbers = [rng.randint(0, len(sheet.table.totals)) for _ in range(rng.randint(0, 2))]
        return (word, rng.choice(NAMES), tuple(numbers))
    if word == "name":
        return (word, name, rng.choice(NAMES + names))
    return (word,)


def deed_of(sheet, command, whole=None):
    """The deed that a command tells, by the words of the promise; None if its names or numbers are wrong."""
    kinds = {name: number for number, name in enumerate(sheet.table.kinds)}
    word = command[0]
    if word == "errors":
        return None
    if word in ("line", "may"):
        return ("line", kinds[command[1]], command[2], whole) if command[1] in kinds else None
    if word in ("total", "add"):
        if len(set(command[1])) < len(command[1]) or not set(command[1]) <= set(kinds):
            return None
        return ("total", tuple(sorted(kinds[name] for name in command[1])))
    if word == "drop":
        return command
    if word == "kind":
        return (word, command[1], tuple(sorted(command[2]))) if len(set(command[2])) == len(command[2]) else None
    return (word, kinds[command[1]], command[2]) if command[1] in kinds else None


def plain_results(sheet, command):
    """All results that a command can have, by the words of the promise."""
    word = command[0]
    if word == "errors":
        return [("errors", totals_by(sheet.table, sheet.errors))]
    deed = deed_of(sheet, command, command[-1])
    if deed is None:
        return [("refused",)]
    if word == "line":
        wholes = allowed(sheet.table, court(sheet.table), sheet.errors, deed[1], deed[2])
        return [("whole", whole) for whole in wholes]
    if word == "may":
        if command[3] not in choices(command[2]):
            return [("refused",)]
        return [("yes",) if is_deed(sheet, deed) else ("lost",)]
    if word == "add":
        if len(sheet.table.totals) == 12:
            return [("refused",)]
        if is_deed(sheet, deed):
            return [("yes",)]
        return [("late",) if is_good(with_total(sheet.table, deed[1])) else ("never",)]
    return [("did",) if is_deed(sheet, deed) else ("refused",)]


def behind(sheet, command, result):
    if result[0] == "whole":
        return sheet_after(sheet, deed_of(sheet, command, result[1]))
    return sheet_after(sheet, deed_of(sheet, command)) if result == ("did",) else sheet


def random_run(rng, sheet, many):
    """Commands that are drawn by the sheets behind those before."""
    commands = []
    for _ in range(many):
        commands.append(random_command(rng, sheet))
        sheet = behind(sheet, commands[-1], run_commands(sheet, commands[-1:])[0])
    return tuple(commands)


class Runs(unittest.TestCase):

    def test_by_sheets_and_deeds(self):
        rng = random.Random(1)
        seen = {}
        for table in GOOD[:100]:
            sheet = begun = random_sheet(rng, table)
            commands = random_run(rng, sheet, 20)
            results = run_commands(sheet, commands)
            self.assertEqual(len(results), 20)
            for at, (command, result) in enumerate(zip(commands, results)):
                self.assertEqual(sheet_of_run(begun, commands[:at], results[:at]), sheet)
                self.assertIn(result, plain_results(sheet, command), (sheet.table.totals, command))
                sheet = behind(sheet, command, result)
                self.assertIs(is_sheet(sheet), True)
                self.assertTrue(all(abs(exact(error)) < 1 for error in totals_by(sheet.table, sheet.errors)))
                key = (command[0], result[0])
                seen[key] = seen.get(key, 0) + 1
            self.assertEqual(sheet_of_run(begun, commands, results), sheet)
        expected = {("line", "whole"), ("line", "refused"), ("errors", "errors"), ("may", "yes"), ("may", "lost"),
                    ("may", "refused"), ("add", "yes"), ("add", "late"), ("add", "never"), ("add", "refused")}
        expected |= {(word, result) for word in ("total", "drop", "kind", "name") for result in ("did", "refused")}
        self.assertEqual(set(seen), expected)

    def test_other_wholes_lead_elsewhere(self):
        sheet = new_sheet(TABLE)
        commands = (("line", "cup", (1, 2)), ("name", "cup", "ale"), ("line", "ale", (1, 3)), ("errors",))
        for one, other in ((0, 1), (1, 0)):
            results = (("whole", one), ("did",), ("whole", other), ("errors", ((1, 6), (0, 1))))
            left = sheet_of_run(results=results, commands=commands, sheet=sheet)
            self.assertEqual(left.table.kinds, ("ale", "jam", "tea"))
            self.assertEqual(exact(left.errors[0]), one + other - Fraction(5, 6))
        self.assertEqual(sheet_of_run(sheet, (), ()), sheet)

    def test_refused(self):
        sheet = Sheet(TABLE, ((1, 2), (0, 1), (0, 1)))
        full = new_sheet(Table(NAMES, ((0,),) * 12))
        for own, command, result in [
                (sheet, ("line", "ale", (1, 2)), "refused"), (sheet, ("total", ("cup", "cup")), "refused"),
                (sheet, ("total", ("cup", "ale")), "refused"), (sheet, ("total", ("tea", "cup")), "refused"),
                (sheet, ("add", ("tea", "cup")), "never"), (sheet, ("add", ("tea", "ale")), "refused"),
                (sheet, ("add", ("tea", "tea")), "refused"), (sheet, ("add", ()), "yes"), (sheet, ("total", ()), "did"),
                (sheet, ("drop", 2), "refused"), (sheet, ("drop", 12), "refused"), (sheet, ("drop", 1), "did"),
                (sheet, ("kind", "tea", ()), "refused"), (sheet, ("kind", "ale", (1, 1)), "refused"),
                (sheet, ("kind", "ale", (2,)), "refused"), (sheet, ("kind", "ale", (1, 0)), "did"),
                (sheet, ("name", "tea", "cup"), "refused"), (sheet, ("name", "tea", "tea"), "refused"),
                (sheet, ("name", "ale", "rum"), "refused"), (sheet, ("name", "tea", "ale"), "did"),
                (sheet, ("may", "tea", (1, 2), 2), "refused"), (sheet, ("may", "ale", (1, 2), 0), "refused"),
                (sheet, ("may", "jam", (1, 2), 1), "lost"), (sheet, ("may", "jam", (1, 2), 0), "yes"),
                (sheet, ("may", "jam", (3, 1), 3), "yes"), (sheet, ("may", "jam", (3, 1), 4), "refused"),
                (full, ("total", ()), "refused"), (full, ("add", ()), "refused"), (full, ("add", ("tea",)), "refused"),
                (full, ("kind", "zebra", ()), "refused"), (full, ("drop", 11), "did"), (full, ("drop", 12), "refused")]:
            results = run_commands(own, (command,))
            self.assertEqual(results[0][0], result, command)
            if result == "refused":
                self.assertEqual(sheet_of_run(own, (command,), results), own)
        # Late: with the errors there are, a total that would be good cannot come any more.
        late = Sheet(Table(("a", "b"), ((0, 1),)), ((5, 1), (-5, 1)))
        self.assertEqual(run_commands(late, (("add", ("a",)), ("total", ("a",)), ("add", ("b", "a")))),
                         (("late",), ("refused",), ("yes",)))
        self.assertEqual(run_commands(commands=(), sheet=late), ())

    def test_four_hundred(self):
        rng = random.Random(2)
        line = Table(NAMES, tuple((at, at + 1) for at in range(11)) + ((11,),))
        commands = tuple(("line", rng.choice(NAMES), random_fraction(rng)) for _ in range(400))
        results = run_commands(new_sheet(line), commands)
        self.assertTrue(all(result[0] == "whole" for result in results))
        self.assertIs(is_sheet(sheet_of_run(new_sheet(line), commands, results)), True)


class Lines(unittest.TestCase):

    def test_shown_results(self):
        for result, line in ((("whole", 3), "whole 3"), (("whole", -10 ** 6), "whole -1000000"), (("did",), "did"),
                             (("errors", ()), "errors"), (("errors", ((0, 1), (-1, 2), (7, 12))), "errors 0 -1/2 7/12"),
                             (("yes",), "yes"), (("lost",), "lost"), (("never",), "never"), (("late",), "late"),
                             (("refused",), "refused")):
            self.assertEqual(show_result(result=result), line)
        long = (10 ** 4500 + 1, 10 ** 4501)
        self.assertEqual(show_result(("errors", (long,))), "errors 1" + "0" * 4499 + "1/1" + "0" * 4501)

    def test_scripts(self):
        rng = random.Random(3)
        for table in GOOD[:40]:
            sheet = random_sheet(rng, table)
            commands = random_run(rng, sheet, 8)
            text = show_commands(commands)
            self.assertEqual(read_commands(text), commands)
            self.assertEqual(run_script(sheet, text), tuple(map(show_result, run_commands(sheet, commands))))

    def test_examples(self):
        sheet = new_sheet(TABLE)
        text = "line cup 3\nadd cup tea\ntotal jam\nmay tea 1/2 1\nerrors\ndrop 7"
        self.assertEqual(run_script(text=text, sheet=sheet), ("whole 3", "never", "did", "yes", "errors 0 0 0", "refused"))
        self.assertEqual(run_script(sheet, "\n \n  drop  1 \n\n"), ("did",))
        self.assertEqual(run_script(sheet, ""), ())

    def test_no_text(self):
        sheet = new_sheet(TABLE)
        for value in odd_values():
            if not isinstance(value, str):
                self.assertEqual(raised(run_script, sheet, value), ("InvalidText", {"line": -1, "at": -1}))
        for text, line in (("tea", 0), ("errors\nlin cup 3", 1), ("\n\ndrop", 2), ("line cup 6/4", 0), ("may cup 1/2", 0)):
            self.assertEqual(raised(run_script, sheet, text), ("InvalidText", {"line": line, "at": 0}))


class Papers(unittest.TestCase):

    def test_right_papers(self):
        rng = random.Random(4)
        seen = {}
        for table in GOOD[:100]:
            sheet = random_sheet(rng, table)
            commands = random_run(rng, sheet, 20)
            pairs = run_with_papers(sheet, commands)
            self.assertEqual(tuple(result for result, _ in pairs), run_commands(sheet, commands))
            for command, (result, paper) in zip(commands, pairs):
                deed = deed_of(sheet, command, command[-1])
                if result == ("lost",):
                    errors = errors_behind(sheet.errors, *deed[1:])
                    self.assertIs(is_attack_from(sheet.table, errors, paper), True)
                    self.assertLessEqual(height_of(paper), 4)
                elif result == ("late",):
                    self.assertIs(is_attack_from(with_total(sheet.table, deed[1]), sheet.errors, paper), True)
                elif result == ("never",):
                    self.assertIs(is_knot(with_total(sheet.table, deed[1]), paper), True)
                else:
                    self.assertIsNone(paper)
                seen[result[0]] = seen.get(result[0], 0) + 1
                sheet = behind(sheet, command, result)
        self.assertGreater(min(seen[word] for word in ("lost", "late", "never")), 10, seen)
        self.assertEqual(run_with_papers(commands=(), sheet=new_sheet(TABLE)), ())


if __name__ == "__main__":
    unittest.main()
