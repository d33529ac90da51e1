"""The window: which wholes keep the signed errors that hang together within less than one."""

from centsatonce.days import choices, errors_behind
from centsatonce.numbers import ONE, ZERO, added, greatest_of, is_small, least_of, taken, timed
from centsatonce.reckonings import class_errors
from centsatonce.tables import class_of_kind
from centsatonce.ties import has_lone


def signed_errors(table, blocks, errors):
    """Return for each class the error of its kinds, times its colour."""
    return signed_by(table, blocks.colours, errors)


def signed_by(table, colours, errors):
    """Return for each class the error of its kinds, times its one of any colours."""
    of_classes = class_errors(table, errors)
    return tuple([timed((colour, 1), error) for colour, error in zip(colours, of_classes)])


def fixed_pieces(table, blocks):
    """Return for each piece whether some total has just one class, one of this piece."""
    return tuple([has_lone(table, piece) for piece in blocks.pieces])


def points_of(table, blocks, errors):
    """Return the points of all pieces."""
    signed = signed_errors(table, blocks, errors)
    points = []
    for piece, fixed in zip(blocks.pieces, fixed_pieces(table, blocks)):
        own = [signed[number] for number in piece]
        points.append(tuple(own + [ZERO]) if fixed else tuple(own))
    return points


def window_of(table, blocks, errors):
    """Return for each piece its least and its greatest point."""
    return tuple([(least_of(some), greatest_of(some)) for some in points_of(table, blocks, errors)])


def span_of(points):
    """Return how far the greatest of some points is above the least one."""
    return taken(greatest_of(points), least_of(points))


def are_close(points):
    """Return whether the greatest of some points is less than 1 above the least one."""
    return is_small(span_of(points))


def lie_from(points, least):
    """Return whether some points lie from a fraction on, less than 1 above it."""
    above = [taken(point, least) for point in points]
    return all([one[0] >= 0 and is_small(one) for one in above])


def is_inside(table, blocks, errors):
    """Return whether each span is below 1."""
    return all([are_close(points) for points in points_of(table, blocks, errors)])


def allowed(table, blocks, errors, kind, amount):
    """Return the lot of the wholes next to an amount behind which errors are inside."""
    found = []
    for whole in choices(amount):
        if is_inside(table, blocks, errors_behind(errors, kind, amount, whole)):
            found.append(whole)
    return tuple(found)


def gap_beside(table, blocks, errors, kind):
    """Return the gap of the class of a kind, None if the kind is in no total."""
    number = class_of_kind(table, kind)
    if number is None:
        return None
    signed = signed_errors(table, blocks, errors)
    piece = [one for one in blocks.pieces if number in one][0]
    others = [signed[other] for other in piece if other != number]
    if has_lone(table, piece):
        others.append(ZERO)
    return (greatest_of(others), added(least_of(others), ONE))
