"""Runs: commands that are done one after another, and their results."""

from centsatonce.checks import are_unlike
from centsatonce.commands import read_commands
from centsatonce.court import court, is_good
from centsatonce.days import choices, errors_behind, totals_by
from centsatonce.deeds import is_deed, line_deed, sheet_after
from centsatonce.fewest import quickest_attack
from centsatonce.numbers import floor_of
from centsatonce.printer import show_fraction, show_integer
from centsatonce.tables import MOST_TOTALS, with_total

REFUSED = ("refused",)
DID = ("did",)
YES = ("yes",)
LOST = ("lost",)
NEVER = ("never",)
LATE = ("late",)


def number_by_name(table, name):
    """Return the number of the kind with a name, None if there is none."""
    return table.kinds.index(name) if name in table.kinds else None


def lot_by_names(table, names):
    """Return the lot of the numbers of kinds with some names, None if one is no kind's or stands there twice."""
    if not are_unlike(names) or not all([name in table.kinds for name in names]):
        return None
    return tuple(sorted([table.kinds.index(name) for name in names]))


def deed_told(table, command, whole):
    """Return the deed that a command tells, a line with a whole, None if it tells none."""
    word = command[0]
    if word in ("line", "name"):
        kind = number_by_name(table, command[1])
        if kind is None:
            return None
        return ("line", kind, command[2], whole) if word == "line" else ("name", kind, command[2])
    if word == "total":
        lot = lot_by_names(table, command[1])
        return None if lot is None else ("total", lot)
    if word == "kind":
        return ("kind", command[1], tuple(sorted(command[2]))) if are_unlike(command[2]) else None
    return command


def result_of(sheet, command):
    """Return the result of a command."""
    if command[0] == "errors":
        return ("errors", totals_by(sheet.table, sheet.errors))
    if command[0] == "may":
        return result_of_may(sheet, command)
    if command[0] == "add":
        return result_of_add(sheet, command)
    if command[0] == "line":
        return result_of_line(sheet, command)
    deed = deed_told(sheet.table, command, None)
    return DID if deed is not None and is_deed(sheet, deed) else REFUSED


def result_of_line(sheet, command):
    """Return the whole to which a line is rounded."""
    _, name, amount = command
    kind = number_by_name(sheet.table, name)
    if kind is None:
        return REFUSED
    return ("whole", line_deed(sheet, kind, amount, floor_of(amount))[3])


def result_of_may(sheet, command):
    """Return whether a line may be rounded to a whole."""
    _, name, amount, whole = command
    kind = number_by_name(sheet.table, name)
    if kind is None or whole not in choices(amount):
        return REFUSED
    return YES if is_deed(sheet, ("line", kind, amount, whole)) else LOST


def result_of_add(sheet, command):
    """Return whether there may be a further total."""
    lot = lot_by_names(sheet.table, command[1])
    if lot is None or len(sheet.table.totals) >= MOST_TOTALS:
        return REFUSED
    if is_deed(sheet, ("total", lot)):
        return YES
    return LATE if is_good(with_total(sheet.table, lot)) else NEVER


def run_commands(sheet, commands):
    """Return the results of commands, done one after another."""
    results = []
    for command in commands:
        results.append(result_of(sheet, command))
        sheet = sheet_behind(sheet, command, results[-1])
    return tuple(results)


def sheet_behind(sheet, command, result):
    """Return the sheet behind a command with a result."""
    if result[0] not in ("whole", "did"):
        return sheet
    return sheet_after(sheet, deed_told(sheet.table, command, result[-1]))


def sheet_of_run(sheet, commands, results):
    """Return the sheet behind commands with results."""
    for command, result in zip(commands, results):
        sheet = sheet_behind(sheet, command, result)
    return sheet


def show_result(result):
    """Return the line of a result."""
    words = [result[0]]
    if result[0] == "whole":
        words.append(show_integer(result[1]))
    elif result[0] == "errors":
        words.extend([show_fraction(error) for error in result[1]])
    return " ".join(words)


def run_script(sheet, text):
    """Return the lines for the results of the commands of a text."""
    return tuple([show_result(result) for result in run_commands(sheet, read_commands(text))])


def run_with_papers(sheet, commands):
    """Return for each command the pair of its result and a right paper, None where none is needed."""
    pairs = []
    for command in commands:
        result = result_of(sheet, command)
        pairs.append((result, paper_for(sheet, command, result)))
        sheet = sheet_behind(sheet, command, result)
    return tuple(pairs)


def paper_for(sheet, command, result):
    """Return a right paper for a result."""
    if result == LOST:
        return quickest_attack(sheet.table, errors_asked(sheet, command))
    if result == LATE:
        return quickest_attack(table_asked(sheet, command), sheet.errors)
    if result == NEVER:
        return court(table_asked(sheet, command))
    return None


def errors_asked(sheet, command):
    """Return the errors that there would be behind the line of a command that asks for it."""
    _, name, amount, whole = command
    return errors_behind(sheet.errors, number_by_name(sheet.table, name), amount, whole)


def table_asked(sheet, command):
    """Return the table with the total of a command that asks for it."""
    return with_total(sheet.table, lot_by_names(sheet.table, command[1]))
