"""Told sequences that can be kept: from which errors on, and by which wholes."""

from centsatonce.days import choices, error_of_line, errors_behind
from centsatonce.errors import Refused
from centsatonce.numbers import ZERO, added
from centsatonce.reckonings import are_all_small, class_errors
from centsatonce.sequences import closures_back
from centsatonce.tables import class_numbers, classes_of


def kept_closures(table, sequence):
    """Return the lots of reckonings due at all places of a sequence that can be kept."""
    closures = closures_back(table, sequence)
    if closures is None:
        raise Refused("lost")
    return closures


def can_hold(table, sequence, place, errors):
    """Return whether errors are held at a place."""
    closures = kept_closures(table, sequence)
    return are_all_small(closures[place], class_errors(table, errors))


def allowed_in(table, sequence, place, errors, amount):
    """Return the lot of the wholes next to an amount behind which errors are held."""
    due = kept_closures(table, sequence)[place + 1]
    found = []
    for whole in choices(amount):
        behind = errors_behind(errors, sequence[place], amount, whole)
        if are_all_small(due, class_errors(table, behind)):
            found.append(whole)
    return tuple(found)


def told_day(table, sequence, amounts):
    """Return the day in which each of the first lines is rounded to the least allowed whole."""
    closures = kept_closures(table, sequence)
    numbers = class_numbers(table)
    of_classes = [ZERO for _ in classes_of(table)]
    day = []
    for at, amount in enumerate(amounts):
        kind = sequence[at]
        whole = choices(amount)[0]
        if numbers[kind] is not None:
            whole = least_allowed(closures[at + 1], of_classes, numbers[kind], amount)
            of_classes[numbers[kind]] = added(of_classes[numbers[kind]], error_of_line(amount, whole))
        day.append((kind, amount, whole))
    return tuple(day)


def least_allowed(due, of_classes, number, amount):
    """Return the least whole for a line of a class behind which what is due stays small."""
    found = choices(amount)
    behind = list(of_classes)
    behind[number] = added(behind[number], error_of_line(amount, found[0]))
    return found[0] if are_all_small(due, behind) else found[-1]
