"""Lines that press: whoever rounds them, a derivation comes to a total that is off."""

from centsatonce.days import errors_behind, no_errors
from centsatonce.derivations import reckonings_along
from centsatonce.numbers import ONE, added, is_less, opposite_of, timed, weighed
from centsatonce.reckonings import class_errors, is_beyond, is_off_by
from centsatonce.tables import classes_of

HALF = (1, 2)


def press(table, derivation, errors):
    """Return the total that is off first, a line that presses on, or None if nothing is to be pressed."""
    return pressed(table, derivation, reckonings_along(table, derivation), errors)


def pressed(table, derivation, reckonings, errors):
    """Return what press does, by the reckonings of all steps."""
    at = first_off_step(table, reckonings, errors)
    if at is None and not is_beyond(reckonings[-1]):
        return None
    if at is None:
        return bursting_line(table, reckonings[-1], errors)
    if derivation[at][0] == "total":
        return ("off", derivation[at][1])
    return parting_line(table, derivation[at], reckonings, errors)


def first_off_step(table, reckonings, errors):
    """Return the number of the first step whose reckoning is off, None if none is."""
    of_classes = class_errors(table, errors)
    for at, reckoning in enumerate(reckonings):
        if is_off_by(reckoning, of_classes):
            return at
    return None


def bursting_line(table, reckoning, errors):
    """Return a line behind which a reckoning that is beyond, but not off, is off."""
    number = [at for at, entry in enumerate(reckoning) if abs(entry) > 1][0]
    return line_of_class(table, number, bursting_amount(reckoning, number, class_errors(table, errors)))


def bursting_amount(reckoning, number, of_classes):
    """Return an amount for a class at which a reckoning, not off, is beyond: behind it this is off."""
    value = weighed(reckoning, of_classes)
    if reckoning[number] < 0:
        value = opposite_of(value)
    return timed(HALF, added(ONE, value))


def parting_line(table, step, reckonings, errors):
    """Return a line behind which one of the parts of a difference is off, if this is off and they are not."""
    parts = (reckonings[step[2]], reckonings[step[3]])
    return line_of_class(table, step[1], parting_amount(parts, step[1], class_errors(table, errors)))


def parting_amount(parts, number, of_classes):
    """Return an amount for a class at which two reckonings agree: behind it one of them is off."""
    one, other = [weighed(part, of_classes) for part in parts]
    # Up, the greater part comes to 1 or above, and down, the lesser one to -1 or below; with -1
    # at the class it is the other way round.
    if parts[0][number] > 0:
        return other if is_less(one, other) else one
    return opposite_of(one if is_less(one, other) else other)


def line_of_class(table, number, amount):
    """Return a line of the least kind of a class."""
    return ("line", classes_of(table)[number][0], amount)


def pressed_day(table, derivation, ups):
    """Return the day of the lines by which a derivation of what is beyond presses, rounded as told."""
    reckonings = reckonings_along(table, derivation)
    errors = no_errors(table)
    day = []
    told = pressed(table, derivation, reckonings, errors)
    while told[0] == "line":
        whole = ups[len(day)] if len(day) < len(ups) else 0
        day.append((told[1], told[2], whole))
        errors = errors_behind(errors, told[1], told[2], whole)
        told = pressed(table, derivation, reckonings, errors)
    return tuple(day)
