"""Ties: totals of just two classes, and the ways that they make."""

from centsatonce.checks import is_tuple_of
from centsatonce.tables import classes_of, totals_by_classes
from centsatonce.ways import is_way, ways_from


def ties(table):
    """Return the lot of all triples of two classes, the lesser one first, and a total of just them."""
    found = []
    for at, total in enumerate(totals_by_classes(table)):
        if len(total) == 2:
            found.append(total + (at,))
    return tuple(sorted(found))


def tie_way(table, one, other):
    """Return some shortest way from one class to another one, None if there is none."""
    return ways_from(ties(table), one).get(other)


def is_tie_way(table, value):
    """Return whether any value is a way."""
    if not is_tuple_of(value, 2):
        return False
    return is_way(ties(table), len(classes_of(table)), value[0], value[1])


def has_lone(table, piece):
    """Return whether some total has just one class, one of a piece."""
    return any([len(total) == 1 and total[0] in piece for total in totals_by_classes(table)])
