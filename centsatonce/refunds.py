"""Strikes that are endured: rounded anew, of the last line alone, or counted on."""

from centsatonce.days import errors_behind, no_errors
from centsatonce.errors import Refused
from centsatonce.numbers import floor_of, opposite_of
from centsatonce.tapes import is_last_first, is_strike
from centsatonce.window import allowed


def anew_lines(deeds):
    """Return the lines of deeds, each strike replaced by a line with the opposite amount."""
    lines = []
    for deed in deeds:
        if is_strike(deed):
            kind, amount = deeds[deed[1]]
            lines.append((kind, opposite_of(amount)))
        else:
            lines.append(deed)
    return tuple(lines)


def day_anew(table, blocks, deeds):
    """Return the window day of such lines in which what a strike takes back is as near as can be to what was given."""
    errors = no_errors(table)
    day = []
    for deed, (kind, amount) in zip(deeds, anew_lines(deeds)):
        wish = -day[deed[1]][2] if is_strike(deed) else floor_of(amount)
        wholes = allowed(table, blocks, errors, kind, amount)
        whole = min(max(wish, wholes[0]), wholes[-1])
        day.append((kind, amount, whole))
        errors = errors_behind(errors, kind, amount, whole)
    return tuple(day)


def kept_back(deeds, day):
    """Return for each strike the sum of its whole and that of the line struck."""
    sums = []
    for at, deed in enumerate(deeds):
        if is_strike(deed):
            sums.append(day[at][2] + day[deed[1]][2])
    return tuple(sums)


def last_first_tape(table, blocks, deeds):
    """Return the tape in which each line gets the least whole allowed for the lines that stand."""
    if not is_last_first(deeds):
        raise Refused("order")
    # The errors ahead of each line that stands, and behind the last one.
    course = [no_errors(table)]
    tape = []
    for deed in deeds:
        if is_strike(deed):
            course.pop()
            tape.append(deed)
        else:
            tape.append(least_rounded(table, blocks, course[-1], deed))
            course.append(errors_behind(course[-1], deed[0], deed[1], tape[-1][2]))
    return tuple(tape)


def counted_tape(table, blocks, deeds):
    """Return the tape in which each line gets the least whole allowed as if no line were struck."""
    errors = no_errors(table)
    tape = []
    for deed in deeds:
        if is_strike(deed):
            tape.append(deed)
        else:
            tape.append(least_rounded(table, blocks, errors, deed))
            errors = errors_behind(errors, deed[0], deed[1], tape[-1][2])
    return tuple(tape)


def least_rounded(table, blocks, errors, line):
    """Return a line with the least whole that is allowed."""
    kind, amount = line
    return (kind, amount, allowed(table, blocks, errors, kind, amount)[0])
