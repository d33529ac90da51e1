"""Tapes: rounded lines, and strikes that take lines out again.

Deeds are the same with lines that are not rounded. A strike is ("struck", index).
"""

from centsatonce.checks import begins_with, is_number_below
from centsatonce.days import MOST_LINES, error_of_line, is_rounded_line, total_errors, totals_behind
from centsatonce.errors import InvalidDay
from centsatonce.numbers import ZERO, is_less, opposite_of


def check_tape(table, value):
    """Refuse any value that is no tape."""
    if not isinstance(value, tuple) or len(value) > MOST_LINES:
        raise InvalidDay(-1)
    standing = {}
    for at, item in enumerate(value):
        if begins_with(item, "struck", 2) and is_number_below(item[1], at) and item[1] in standing:
            standing.pop(item[1])
        elif is_rounded_line(table, item):
            standing[at] = True
        else:
            raise InvalidDay(at)


def is_strike(item):
    """Return whether an item of a tape or of deeds is a strike."""
    return item[0] == "struck"


def standing_places(items):
    """Return the lot of the indexes of all lines that stand."""
    struck = {item[1]: True for item in items if is_strike(item)}
    return tuple([at for at, item in enumerate(items) if not is_strike(item) and at not in struck])


def count_strikes(items):
    """Return the number of strikes."""
    return len([item for item in items if is_strike(item)])


def is_last_first(items):
    """Return whether each strike strikes the last line that stands then."""
    standing = []
    for at, item in enumerate(items):
        if not is_strike(item):
            standing.append(at)
        elif standing.pop() != item[1]:
            return False
    return True


def standing_day(tape):
    """Return the lines that stand, in their sequence."""
    return tuple([tape[at] for at in standing_places(tape)])


def tape_errors(table, tape):
    """Return the errors of totals of the lines that stand."""
    return total_errors(table, standing_day(tape))


def tape_course(table, tape):
    """Return the errors of totals ahead of the first item, behind it, and so on."""
    errors = tuple([ZERO for _ in table.totals])
    course = [errors]
    for item in tape:
        kind, amount, whole = tape[item[1]] if is_strike(item) else item
        change = error_of_line(amount, whole)
        if is_strike(item):
            change = opposite_of(change)
        errors = totals_behind(table, errors, kind, change)
        course.append(errors)
    return tuple(course)


def is_tape(table, value, most=(1, 1)):
    """Return whether any value is a tape behind each of whose items all errors are below a bound."""
    try:
        check_tape(table, value)
    except InvalidDay:
        return False
    if most is None:
        return True
    for errors in tape_course(table, value)[1:]:
        if not all([is_less((abs(top), bottom), most) for top, bottom in errors]):
            return False
    return True
