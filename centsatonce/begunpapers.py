"""Papers of totals that are begun amid a day: what shows that some clerk can go on, or that none can."""

from centsatonce.begun import counted_errors
from centsatonce.begunheights import are_heights, begun_heights, begun_points, is_uneven_ring, lone_totals, uneven_ring
from centsatonce.checks import are_numbers_below, are_unlike, is_tuple_of
from centsatonce.court import Blocks, court, is_blocks
from centsatonce.heldpapers import are_least
from centsatonce.knots import is_knot
from centsatonce.numbers import is_fraction, is_small, least_of, sum_by_turns
from centsatonce.tables import classes_of, totals_by_classes
from centsatonce.ties import tie_way
from centsatonce.window import are_close, lie_from


class BegunPaper:
    """Blocks, heights of the classes, and for each piece from where on its points lie; any values."""

    def __init__(self, blocks, heights, least):
        self.blocks = blocks
        self.heights = heights
        self.least = least


class LostWay:
    """Classes in which totals meet, and these, one more; any values."""

    def __init__(self, joints, totals):
        self.joints = joints
        self.totals = totals


def begun_paper(table, starts, errors):
    """Return some right knot, otherwise UnevenRing, otherwise LostWay, otherwise BegunPaper."""
    verdict = court(table)
    if not isinstance(verdict, Blocks):
        return verdict
    heights = begun_heights(table, starts)
    if heights is None:
        return uneven_ring(table, starts)
    points = begun_points(table, verdict, starts, heights, errors)
    for piece, own in zip(verdict.pieces, points):
        if not are_close(own):
            return lost_way(table, starts, errors, piece)
    return BegunPaper(verdict, heights, tuple([least_of(own) for own in points]))


def lost_way(table, starts, errors, piece):
    """Return some right LostWay in a piece in which two points are too far apart."""
    ends = way_ends(table, piece)
    for first in ends:
        for last in ends:
            way = way_between(table, first, last)
            if way is not None and is_off_way(table, starts, errors, way.totals):
                return way
    return None


def way_ends(table, piece):
    """Return the ends of ways in a piece: (class, None), or (class, total) for a total of just this class."""
    return [(number, None) for number in piece] + lone_totals(table, piece)


def way_between(table, first, last):
    """Return the way from one end to another one, None if it has no totals."""
    classes, totals = tie_way(table, first[0], last[0])
    joints = classes
    if first[1] is None:
        joints = joints[1:]
    else:
        totals = (first[1],) + totals
    if last[1] is None:
        joints = joints[:-1]
    else:
        totals = totals + (last[1],)
    return LostWay(joints, totals) if totals else None


def is_off_way(table, starts, errors, totals):
    """Return whether the counted errors of totals, with signs by turns, come to 1 or more, or to -1 or less."""
    counted = counted_errors(table, starts, errors)
    return not is_small(sum_by_turns([counted[total] for total in totals]))


def is_begun_paper(table, starts, errors, value):
    """Return whether any value is a right knot, UnevenRing, LostWay or BegunPaper."""
    if isinstance(value, BegunPaper):
        return is_right_begun(table, starts, errors, value)
    if isinstance(value, LostWay):
        return is_right_way(table, starts, errors, value)
    return is_uneven_ring(table, starts, value) or is_knot(table, value)


def is_right_begun(table, starts, errors, paper):
    """Return whether a BegunPaper is right, whatever it has."""
    blocks, heights = paper.blocks, paper.heights
    if not is_blocks(table, blocks) or not is_tuple_of(heights, len(classes_of(table))):
        return False
    if not all([is_fraction(one) for one in heights]) or not are_heights(table, blocks.colours, starts, heights):
        return False
    if not are_least(blocks, paper.least):
        return False
    points = begun_points(table, blocks, starts, heights, errors)
    return all([lie_from(own, least) for own, least in zip(points, paper.least)])


def is_right_way(table, starts, errors, paper):
    """Return whether a LostWay is right, whatever it has."""
    joints, totals = paper.joints, paper.totals
    if not are_numbers_below(joints, len(classes_of(table))) or not are_unlike(joints):
        return False
    if not are_numbers_below(totals, len(table.totals)) or len(totals) != len(joints) + 1:
        return False
    by_classes = totals_by_classes(table)
    rows = [by_classes[total] for total in totals]
    if not all([1 <= len(row) <= 2 for row in rows]):
        return False
    if joints and (not are_joined(joints, rows) or not are_ended(joints, rows, totals)):
        return False
    return is_off_way(table, starts, errors, totals)


def are_joined(joints, rows):
    """Return whether each joint lies in the totals beside it."""
    # So a total between two joints, of two classes at most, has just these.
    return all([joint in before and joint in behind for joint, before, behind in zip(joints, rows, rows[1:])])


def are_ended(joints, rows, totals):
    """Return whether the classes beyond the first and the last joint, or the totals without such, are unlike."""
    first = [number for number in rows[0] if number != joints[0]]
    last = [number for number in rows[-1] if number != joints[-1]]
    if any([number in joints for number in first + last]):
        return False
    if not first and not last:
        return totals[0] != totals[-1]
    return first != last
