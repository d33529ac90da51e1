"""Lines, days, and the errors behind them."""

from centsatonce.checks import is_an_integer, is_number_below, is_tuple_of
from centsatonce.errors import InvalidDay, InvalidLine
from centsatonce.numbers import ZERO, added, are_small, ceiling_of, floor_of, is_fraction, sum_of, taken

MOST_LINES = 400
MILLION = 1000000


def is_amount(value):
    """Return whether any value is a fraction that may be the amount of a line."""
    return is_fraction(value) and abs(value[0]) <= MILLION and value[1] <= MILLION


def check_line(table, value):
    """Refuse any value that is no line of a table."""
    if not is_tuple_of(value, 2):
        raise InvalidLine(-1)
    if not is_number_below(value[0], len(table.kinds)):
        raise InvalidLine(0)
    if not is_amount(value[1]):
        raise InvalidLine(1)


def choices(amount):
    """Return the lot of the wholes next to an amount."""
    low, high = floor_of(amount), ceiling_of(amount)
    return (low,) if low == high else (low, high)


def is_rounded_line(table, value):
    """Return whether any value is a line of a table with one of its choices."""
    if not is_tuple_of(value, 3):
        return False
    kind, amount, whole = value
    if not is_number_below(kind, len(table.kinds)) or not is_amount(amount):
        return False
    return is_an_integer(whole) and whole in choices(amount)


def check_day(table, value):
    """Refuse any value that is no day."""
    if not isinstance(value, tuple) or len(value) > MOST_LINES:
        raise InvalidDay(-1)
    for at, line in enumerate(value):
        if not is_rounded_line(table, line):
            raise InvalidDay(at)


def error_of_line(amount, whole):
    """Return the error of one rounded line."""
    return taken((whole, 1), amount)


def errors_behind(errors, kind, amount, whole):
    """Return the errors of the kinds behind one more line."""
    behind = added(errors[kind], error_of_line(amount, whole))
    return errors[:kind] + (behind,) + errors[kind + 1:]


def no_errors(table):
    """Return the errors of the kinds ahead of all lines."""
    return tuple([ZERO for _ in table.kinds])


def errors_of(table, day):
    """Return the errors of all kinds behind a day."""
    errors = no_errors(table)
    for kind, amount, whole in day:
        errors = errors_behind(errors, kind, amount, whole)
    return errors


def error_of_total(table, errors, total):
    """Return the error of one total, by those of the kinds."""
    return sum_of([errors[kind] for kind in table.totals[total]])


def totals_by(table, errors):
    """Return the errors of all totals, by those of the kinds."""
    return tuple([error_of_total(table, errors, total) for total in range(len(table.totals))])


def total_errors(table, day):
    """Return the errors of all totals behind a day."""
    return totals_by(table, errors_of(table, day))


def totals_behind(table, errors, kind, change):
    """Return the errors of all totals behind a change of the error of one kind."""
    behind = []
    for total, error in zip(table.totals, errors):
        behind.append(added(error, change) if kind in total else error)
    return tuple(behind)


def course_of(table, day):
    """Return the errors of all totals ahead of the first line, behind it, and so on."""
    errors = tuple([ZERO for _ in table.totals])
    course = [errors]
    for kind, amount, whole in day:
        errors = totals_behind(table, errors, kind, error_of_line(amount, whole))
        course.append(errors)
    return tuple(course)


def first_off(table, day):
    """Return the index of the first line behind which a total is one off or more, or None."""
    for at, errors in enumerate(course_of(table, day)[1:]):
        if not are_small(errors):
            return at
    return None


def is_day(table, value, kept=True):
    """Return whether any value is a day, and, if kept is True, a kept one."""
    try:
        check_day(table, value)
    except InvalidDay:
        return False
    return kept is not True or first_off(table, value) is None
