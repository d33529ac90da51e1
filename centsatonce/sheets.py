"""Sheets: a table and the errors of its kinds, from which all totals can be kept."""

from centsatonce.checks import is_tuple_of
from centsatonce.court import Blocks, court, is_good
from centsatonce.days import no_errors
from centsatonce.errors import Refused
from centsatonce.numbers import is_fraction
from centsatonce.tables import Table
from centsatonce.window import is_inside


class Sheet:
    """A table, and the errors of its kinds; any values."""

    def __init__(self, table, errors):
        self.table = table
        self.errors = errors

    def __eq__(self, other):
        return isinstance(other, Sheet) and self.table == other.table and self.errors == other.errors


def is_sheet(value):
    """Return whether any value is an open sheet."""
    if not isinstance(value, Sheet) or not isinstance(value.table, Table):
        return False
    if not is_tuple_of(value.errors, len(value.table.kinds)) or not all([is_fraction(one) for one in value.errors]):
        return False
    return are_open(value.table, value.errors)


def are_open(table, errors):
    """Return whether a table is good and errors are inside its window."""
    blocks = court(table)
    return isinstance(blocks, Blocks) and is_inside(table, blocks, errors)


def new_sheet(table):
    """Return the sheet of a table without errors."""
    if not is_good(table):
        raise Refused("table")
    return Sheet(table, no_errors(table))
