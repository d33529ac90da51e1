"""Wide windows: signed errors, by any colours, within less than one of one another and of 0."""

from centsatonce.days import choices, errors_behind, is_day, no_errors
from centsatonce.numbers import ZERO, greatest_of, least_of
from centsatonce.pieces import pieces_of
from centsatonce.tables import classes_of
from centsatonce.window import are_close, signed_by


def wide_points(table, colours, errors):
    """Return for each piece its wide points."""
    signed = signed_by(table, colours, errors)
    return [[ZERO] + [signed[number] for number in piece] for piece in pieces_of(table)]


def wide_window(table, colours, errors):
    """Return for each piece its least and its greatest wide point."""
    return tuple([(least_of(some), greatest_of(some)) for some in wide_points(table, colours, errors)])


def is_wide_inside(table, colours, errors):
    """Return whether the wide points of each piece are less than 1 apart."""
    return all([are_close(some) for some in wide_points(table, colours, errors)])


def wide_allowed(table, colours, errors, kind, amount):
    """Return the lot of the wholes next to an amount behind which errors are wide inside."""
    found = []
    for whole in choices(amount):
        if is_wide_inside(table, colours, errors_behind(errors, kind, amount, whole)):
            found.append(whole)
    return tuple(found)


def is_wide_day(table, colours, value):
    """Return whether any value is a wide day."""
    if not is_day(table, value, False):
        return False
    errors = no_errors(table)
    for kind, amount, whole in value:
        errors = errors_behind(errors, kind, amount, whole)
        if not is_wide_inside(table, colours, errors):
            return False
    return True


def wide_day(table, colours, lines):
    """Return the day in which each line gets the least whole behind which errors are wide inside."""
    errors = no_errors(table)
    day = []
    for kind, amount in lines:
        whole = wide_allowed(table, colours, errors, kind, amount)[0]
        day.append((kind, amount, whole))
        errors = errors_behind(errors, kind, amount, whole)
    return tuple(day)


def near_day(table, colours, weights, bottom):
    """Return some wide day behind which the weighed error is its bound less a part of this."""
    classes = classes_of(table)
    day = []
    for piece in pieces_of(table):
        for number in heavier_side(piece, colours, weights):
            # The weighed error grows with the weight times the error: so that has the sign of the weight.
            up = int(weights[number] > 0)
            amount = (1, bottom) if up else (bottom - 1, bottom)
            day.append((classes[number][0], amount, up))
    return tuple(day)


def heavier_side(piece, colours, weights):
    """Return those classes of a piece whose weights times colours have one sign and add up to most."""
    above = [number for number in piece if weights[number] * colours[number] > 0]
    below = [number for number in piece if weights[number] * colours[number] < 0]
    if sum([abs(weights[number]) for number in above]) < sum([abs(weights[number]) for number in below]):
        return below
    return above
