"""Heights of the classes by the starts of totals, and the rings that leave none."""

from centsatonce.checks import are_numbers_below, are_unlike, is_tuple_of
from centsatonce.court import WHITE
from centsatonce.held import blocks_or_refused
from centsatonce.numbers import ZERO, added, sum_by_turns, taken, timed
from centsatonce.tables import classes_of, totals_by_classes
from centsatonce.ties import ties
from centsatonce.ways import are_tied, ring_between, ways_from
from centsatonce.window import signed_errors

LEAST_RING = 2


class UnevenRing:
    """Classes on a ring, and totals that tie them; any values."""

    def __init__(self, classes, totals):
        self.classes = classes
        self.totals = totals


def begun_heights(table, starts):
    """Return the heights that are 0 for the least class of each piece, None if there are none."""
    blocks = blocks_or_refused(table)
    heights = heights_along(table, blocks, starts)
    return heights if are_heights(table, blocks.colours, starts, heights) else None


def heights_along(table, blocks, starts):
    """Return what the heights are along shortest ways from the least class of each piece."""
    tied = ties(table)
    told = {}
    for piece in blocks.pieces:
        for number, (classes, totals) in ways_from(tied, piece[0]).items():
            told[number] = height_behind(blocks.colours, starts, classes, totals)
    return tuple([told[number] for number in range(len(told))])


def height_behind(colours, starts, classes, totals):
    """Return the height of the last class of a way on which the first one is at 0."""
    height = ZERO
    for number, total in zip(classes, totals):
        # A start is the height of the white class less that of the black one.
        height = taken(height, starts[total]) if colours[number] == WHITE else added(height, starts[total])
    return height


def are_heights(table, colours, starts, heights):
    """Return whether the start of each tie is the height of its white class less that of its black one."""
    for one, other, total in ties(table):
        gap = taken(heights[one], heights[other])
        if colours[one] != WHITE:
            gap = taken(ZERO, gap)
        if gap != starts[total]:
            return False
    return True


def uneven_ring(table, starts):
    """Return some right UnevenRing, None if there is none."""
    blocks = blocks_or_refused(table)
    tied = ties(table)
    for piece in blocks.pieces:
        ways = ways_from(tied, piece[0])
        for one, other, total in tied:
            if one in ways:
                # A tie that is on one of the two ways makes no ring with them, but cancels itself out.
                classes, totals = ring_between(ways[one], ways[other], total)
                if sum_of_starts(starts, totals) != ZERO:
                    return UnevenRing(classes, totals)
    return None


def sum_of_starts(starts, totals):
    """Return the sum of the starts of some totals with signs by turns."""
    return sum_by_turns([starts[total] for total in totals])


def is_uneven_ring(table, starts, value):
    """Return whether any value is a right UnevenRing."""
    if not isinstance(value, UnevenRing) or not are_numbers_below(value.classes, len(classes_of(table))):
        return False
    classes, totals = value.classes, value.totals
    if len(classes) < LEAST_RING or len(classes) & 1 or not are_unlike(classes):
        return False
    if not is_tuple_of(totals, len(classes)):
        return False
    if not are_tied(ties(table), list(zip(classes, classes[1:] + classes[:1])), totals):
        return False
    return sum_of_starts(starts, totals) != ZERO


def begun_points(table, blocks, starts, heights, errors):
    """Return for each piece the points of its classes and of its totals of one class, less the heights."""
    signed = signed_errors(table, blocks, errors)
    points = []
    for piece in blocks.pieces:
        own = [taken(signed[number], heights[number]) for number in piece]
        for number, total in lone_totals(table, piece):
            own.append(taken(timed((blocks.colours[number], 1), starts[total]), heights[number]))
        points.append(own)
    return points


def lone_totals(table, piece):
    """Return the pairs of a class of a piece and a total that has just this class."""
    totals = totals_by_classes(table)
    return [(one[0], total) for total, one in enumerate(totals) if len(one) == 1 and one[0] in piece]
