"""Totals that are begun amid a day, and count from then on."""

from centsatonce.days import course_of, error_of_total, is_day, totals_by
from centsatonce.numbers import ZERO, is_small, taken
from centsatonce.tables import with_total


def no_starts(table):
    """Return the starts of totals that are there from the beginning."""
    return tuple([ZERO for _ in table.totals])


def counted_errors(table, starts, errors):
    """Return the counted errors of all totals, by the errors of the kinds."""
    every = totals_by(table, errors)
    return tuple([taken(error, start) for error, start in zip(every, starts)])


def begin_total(table, starts, errors, total):
    """Return the table with a further total, and all starts, if it is begun now."""
    begun = with_total(table, total)
    return (begun, starts + (error_of_total(begun, errors, len(starts)),))


def starts_behind(table, places, day):
    """Return the starts of totals that are begun behind so many lines of a day."""
    course = course_of(table, day)
    return tuple([course[place][total] for total, place in enumerate(places)])


def is_begun_day(table, places, value):
    """Return whether any value is a day that keeps each total begun behind so many lines."""
    if not is_day(table, value, False):
        return False
    course = course_of(table, value)
    for total, place in enumerate(places):
        for errors in course[place + 1:]:
            if not is_small(taken(errors[total], course[place][total])):
                return False
    return True
