"""Knots: what shows that the totals of a table cannot always be kept."""

from centsatonce.checks import are_numbers_below, are_unlike, is_lot_below, is_number_below, is_tuple_of
from centsatonce.tables import classes_of, totals_by_classes
from centsatonce.ties import ties
from centsatonce.ways import are_tied, ring_between, ways_from

LEAST_RING = 3
LEAST_PARTS = 3


class Knot:
    """A word, "three" or "ring", a total or classes, and totals; any values."""

    def __init__(self, word, at, totals):
        self.word = word
        self.at = at
        self.totals = totals


def parted(table, total, one, other):
    """Return the lots of a total's classes in both of two totals, in each alone, in neither."""
    totals = totals_by_classes(table)
    lots = []
    for in_one, in_other in ((True, True), (True, False), (False, True), (False, False)):
        lot = []
        for number in totals[total]:
            if (number in totals[one]) == in_one and (number in totals[other]) == in_other:
                lot.append(number)
        lots.append(tuple(lot))
    return tuple(lots)


def parts_into_three(table, total, one, other):
    """Return whether two totals part the classes of a total into three lots or four."""
    return len([lot for lot in parted(table, total, one, other) if lot]) >= LEAST_PARTS


def three_totals(table):
    """Return the lot of the totals of three classes or more."""
    return tuple([at for at, total in enumerate(totals_by_classes(table)) if len(total) >= LEAST_PARTS])


def partings_into_three(table, total):
    """Return the lot of all pairs of totals that part a total into three lots or four."""
    many = len(table.totals)
    pairs = [(one, other) for one in range(many) for other in range(one + 1, many)]
    return tuple([pair for pair in pairs if parts_into_three(table, total, pair[0], pair[1])])


def parting_total(table, one, other):
    """Return the least number of a total that has just one of two unlike classes."""
    for at, total in enumerate(totals_by_classes(table)):
        if (one in total) != (other in total):
            return at
    return None


def three_in(table, total):
    """Return some right knot "three" at a total, None if it has fewer than three classes."""
    pairs = partings_into_three(table, total)
    return Knot("three", total, pairs[0]) if pairs else None


def odd_ring(table):
    """Return some right knot "ring", None if there is none."""
    tied = ties(table)
    for start in range(len(classes_of(table))):
        rings = rings_from(tied, start)
        if rings:
            return rings[0]
    return None


def odd_rings(table):
    """Return some right knots "ring", the shortest one among them, none if there is none."""
    tied = ties(table)
    return [ring for start in range(len(classes_of(table))) for ring in rings_from(tied, start)]


def rings_from(tied, start):
    """Return the rings of two shortest ways from a start, as long as one another, whose ends are tied."""
    ways = ways_from(tied, start)
    rings = []
    for one, other, total in tied:
        if one in ways and len(ways[one][0]) == len(ways[other][0]):
            rings.append(ring_of(ways[one], ways[other], total))
    return rings


def ring_of(one, other, total):
    """Return the ring of two shortest ways with one start, as long as another, and a tie of their ends."""
    classes, totals = ring_between(one, other, total)
    return Knot("ring", classes, totals)


def is_knot(table, value):
    """Return whether any value is a right knot."""
    if not isinstance(value, Knot) or not isinstance(value.word, str):
        return False
    if value.word == "three":
        return is_three(table, value)
    return value.word == "ring" and is_ring(table, value)


def is_three(table, knot):
    """Return whether a knot is right in its first form, whatever it has."""
    many = len(table.totals)
    if not is_number_below(knot.at, many):
        return False
    if not is_lot_below(knot.totals, many) or len(knot.totals) != 2:
        return False
    return parts_into_three(table, knot.at, knot.totals[0], knot.totals[1])


def is_ring(table, knot):
    """Return whether a knot is right in its second form, whatever it has."""
    classes = knot.at
    if not are_numbers_below(classes, len(classes_of(table))) or not are_unlike(classes):
        return False
    if len(classes) < LEAST_RING or len(classes) & 1 == 0:
        return False
    if not is_tuple_of(knot.totals, len(classes)):
        return False
    return are_tied(ties(table), list(zip(classes, classes[1:] + classes[:1])), knot.totals)
