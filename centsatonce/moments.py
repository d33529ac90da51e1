"""Moments of a day at which a further total can be begun."""

from centsatonce.begun import begin_total, no_starts
from centsatonce.days import errors_behind, no_errors
from centsatonce.numbers import ZERO
from centsatonce.tables import with_total
from centsatonce.walks import can_go_on


def can_begin(table, starts, errors, total):
    """Return whether some clerk can go on if a further total is begun now."""
    begun, all_starts = begin_total(table, starts, errors, total)
    return can_go_on(begun, all_starts, errors)


def can_count(table, starts, errors, total):
    """Return whether some clerk can go on if a further total comes that counts all that was."""
    return can_go_on(with_total(table, total), starts + (ZERO,), errors)


def moments(table, day, total):
    """Return the lot of the numbers of first lines of a day behind which a further total can be begun."""
    starts, errors = no_starts(table), no_errors(table)
    found = [0] if can_begin(table, starts, errors, total) else []
    for at, (kind, amount, whole) in enumerate(day):
        errors = errors_behind(errors, kind, amount, whole)
        if can_begin(table, starts, errors, total):
            found.append(at + 1)
    return tuple(found)
