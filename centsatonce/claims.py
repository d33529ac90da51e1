"""Claims: answers to commands and statements, of any kinds, and whether they are right."""

from centsatonce.attacks import is_attack_from
from centsatonce.checks import are_numbers_below, begins_with, is_an_integer, is_tuple_of
from centsatonce.commands import is_command
from centsatonce.court import is_blocks
from centsatonce.days import MOST_LINES
from centsatonce.deeds import is_deed
from centsatonce.derivations import derived_by, is_derivation
from centsatonce.heldpapers import is_held_paper
from centsatonce.knots import is_knot
from centsatonce.numbers import is_fraction
from centsatonce.reckonings import is_reckoning
from centsatonce.runs import deed_told, errors_asked, result_of, sheet_behind, table_asked
from centsatonce.sheets import is_sheet
from centsatonce.tables import Table
from centsatonce.toldpapers import is_beaten_paper, is_told_paper
from centsatonce.windowdays import is_window_day

LENGTHS = {
    "blocks": 3,
    "knot": 3,
    "derived": 4,
    "attack": 4,
    "day": 4,
    "told": 4,
    "beaten": 4,
    "held": 4,
    "pair": 5,
    "run": 4,
}


def run_fault(sheet, commands, answers):
    """Return the number of the first pair of any value that is not right, lacks or is too much, None if none is."""
    if not isinstance(answers, tuple):
        return 0
    for at, command in enumerate(commands):
        if at >= len(answers) or not is_tuple_of(answers[at], 2):
            return at
        result, paper = answers[at]
        if not is_right_pair(sheet, command, result, paper):
            return at
        sheet = sheet_behind(sheet, command, result)
    return len(commands) if len(answers) > len(commands) else None


def is_right_pair(sheet, command, result, paper):
    """Return whether any values are a result that a command can have in a sheet, and a right paper for it."""
    return can_be_result(sheet, command, result) and is_right_paper(sheet, command, result, paper)


def can_be_result(sheet, command, value):
    """Return whether any value can be the result of a command."""
    right = result_of(sheet, command)
    if not begins_with(value, right[0], len(right)):
        return False
    if right[0] == "whole":
        return is_an_integer(value[1]) and is_deed(sheet, deed_told(sheet.table, command, value[1]))
    if right[0] == "errors":
        return are_fractions(value[1], len(right[1])) and value == right
    return True


def are_fractions(value, many):
    """Return whether any value is a tuple of so many fractions."""
    return is_tuple_of(value, many) and all([is_fraction(one) for one in value])


def is_right_paper(sheet, command, result, value):
    """Return whether any value is a right paper for a right result."""
    if result[0] == "lost":
        return is_attack_from(sheet.table, errors_asked(sheet, command), value)
    if result[0] == "late":
        return is_attack_from(table_asked(sheet, command), sheet.errors, value)
    if result[0] == "never":
        return is_knot(table_asked(sheet, command), value)
    return value is None


def is_so(value):
    """Return whether any value is a statement, and what it says is so."""
    if not isinstance(value, tuple) or not value or not isinstance(value[0], str):
        return False
    if value[0] not in LENGTHS or len(value) != LENGTHS[value[0]]:
        return False
    if value[0] in ("pair", "run"):
        return is_sheet(value[1]) and is_so_of_sheet(value)
    return isinstance(value[1], Table) and is_so_of_table(value)


def is_so_of_sheet(value):
    """Return whether a statement of an open sheet, whatever else it has, is so."""
    if value[0] == "pair":
        return is_command(value[2]) and is_right_pair(value[1], value[2], value[3], value[4])
    if not isinstance(value[2], tuple) or not all([is_command(command) for command in value[2]]):
        return False
    return run_fault(value[1], value[2], value[3]) is None


def is_so_of_table(value):
    """Return whether a statement of a table, whatever else it has, is so."""
    word, table = value[:2]
    if word == "blocks":
        return is_blocks(table, value[2])
    if word == "knot":
        return is_knot(table, value[2])
    if word == "day":
        return is_blocks(table, value[2]) and is_window_day(table, value[2], value[3])
    if word == "derived":
        return is_derived_by(table, value[2], value[3])
    if word in ("attack", "held"):
        return are_fractions(value[2], len(table.kinds)) and is_so_of_errors(value)
    return is_sequence(table, value[2]) and is_so_of_sequence(value)


def is_derived_by(table, derivation, reckoning):
    """Return whether any values are a derivation and the reckoning that it derives."""
    if not is_derivation(table, derivation) or not is_reckoning(table, reckoning):
        return False
    return derived_by(table, derivation) == reckoning


def is_so_of_errors(value):
    """Return whether a statement of a table and errors, whatever paper it has, is so."""
    word, table, errors, paper = value
    if word == "attack":
        return is_attack_from(table, errors, paper)
    return is_held_paper(table, errors, paper)


def is_sequence(table, value):
    """Return whether any value is a sequence of at most 400 kinds."""
    return are_numbers_below(value, len(table.kinds)) and len(value) <= MOST_LINES


def is_so_of_sequence(value):
    """Return whether a statement of a table and a sequence, whatever paper it has, is so."""
    word, table, sequence, paper = value
    if word == "told":
        return is_told_paper(table, sequence, paper)
    return is_beaten_paper(table, sequence, paper)


def not_so(values):
    """Return the lot of the numbers of those of a tuple of any values that are not so."""
    return tuple([at for at, value in enumerate(values) if not is_so(value)])
