"""Deeds: what is done to an open sheet, such that it stays open."""

from itertools import combinations

from centsatonce.checks import begins_with, is_lot_below, is_name, is_number_below
from centsatonce.court import court
from centsatonce.days import errors_behind, is_rounded_line
from centsatonce.errors import Refused
from centsatonce.numbers import ZERO
from centsatonce.sheets import Sheet, are_open
from centsatonce.tables import MOST_KINDS, MOST_TOTALS, renamed_table, table_by_names, with_total, without_totals
from centsatonce.window import allowed

MOST_TO_ADD = 6


def is_deed(sheet, value):
    """Return whether any value is a deed that can be done in an open sheet."""
    if not is_told_deed(sheet.table, value):
        return False
    behind = sheet_after(sheet, value)
    return are_open(behind.table, behind.errors)


def is_told_deed(table, value):
    """Return whether any value is a deed for a table, whether the sheet behind it is open or not."""
    if begins_with(value, "line", 4):
        return is_rounded_line(table, value[1:])
    if begins_with(value, "total", 2):
        return len(table.totals) < MOST_TOTALS and is_lot_below(value[1], len(table.kinds))
    if begins_with(value, "drop", 2):
        return is_number_below(value[1], len(table.totals))
    if begins_with(value, "kind", 3):
        if len(table.kinds) >= MOST_KINDS or not is_free_name(table, value[1]):
            return False
        return is_lot_below(value[2], len(table.totals))
    if not begins_with(value, "name", 3):
        return False
    return is_number_below(value[1], len(table.kinds)) and is_free_name(table, value[2])


def is_free_name(table, value):
    """Return whether any value is a name that no kind has."""
    return is_name(value) and value not in table.kinds


def sheet_after(sheet, deed):
    """Return the sheet behind a deed."""
    table, errors = sheet.table, sheet.errors
    if deed[0] == "line":
        return Sheet(table, errors_behind(errors, deed[1], deed[2], deed[3]))
    if deed[0] == "total":
        return Sheet(with_total(table, deed[1]), errors)
    if deed[0] == "drop":
        return Sheet(without_totals(table, deed[1:]), errors)
    if deed[0] == "kind":
        return with_kind(sheet, deed[1], deed[2])
    names = table.kinds[:deed[1]] + deed[2:] + table.kinds[deed[1] + 1:]
    behind, numbers = renamed_table(table, names)
    return Sheet(behind, errors_by_numbers(numbers, errors))


def with_kind(sheet, name, totals):
    """Return the sheet with a further kind in a lot of totals, without error."""
    fresh = len(sheet.table.kinds)
    rows = []
    for at, total in enumerate(sheet.table.totals):
        rows.append(total + (fresh,) if at in totals else total)
    table, numbers = table_by_names(sheet.table.kinds + (name,), rows)
    return Sheet(table, errors_by_numbers(numbers, sheet.errors + (ZERO,)))


def errors_by_numbers(numbers, errors):
    """Return the errors of kinds by their new numbers."""
    told = {number: error for number, error in zip(numbers, errors)}
    return tuple([told[number] for number in range(len(numbers))])


def sheet_after_all(sheet, deeds):
    """Return the sheet behind a tuple of deeds."""
    for deed in deeds:
        sheet = sheet_after(sheet, deed)
    return sheet


def line_deed(sheet, kind, amount, wish):
    """Return the deed of a line with the whole nearest to an integer that can be done."""
    wholes = allowed(sheet.table, court(sheet.table), sheet.errors, kind, amount)
    return ("line", kind, amount, min(max(wish, wholes[0]), wholes[-1]))


def open_totals(sheet):
    """Return the lot of all totals that can be added."""
    many = len(sheet.table.kinds)
    if many > MOST_TO_ADD:
        raise Refused("size")
    lots = []
    for size in range(many + 1):
        for lot in combinations(range(many), size):
            if is_deed(sheet, ("total", lot)):
                lots.append(lot)
    return tuple(sorted(lots))
