"""Window days: days of allowed wholes only."""

from centsatonce.days import errors_behind, is_day, no_errors
from centsatonce.window import allowed


def window_day(table, blocks, lines, wishes):
    """Return the window day in which each line gets the allowed whole nearest to its wish."""
    errors = no_errors(table)
    day = []
    for (kind, amount), wish in zip(lines, wishes):
        wholes = allowed(table, blocks, errors, kind, amount)
        # The wholes are next to one another, so one of them is nearer to any integer.
        whole = min(max(wish, wholes[0]), wholes[-1])
        day.append((kind, amount, whole))
        errors = errors_behind(errors, kind, amount, whole)
    return tuple(day)


def is_window_day(table, blocks, value):
    """Return whether any value is a window day."""
    if not is_day(table, value, False):
        return False
    errors = no_errors(table)
    for kind, amount, whole in value:
        if whole not in allowed(table, blocks, errors, kind, amount):
            return False
        errors = errors_behind(errors, kind, amount, whole)
    return True
