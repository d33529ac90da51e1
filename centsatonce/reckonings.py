"""Reckonings: tuples with an integer for each class of a table."""

from centsatonce.checks import is_an_integer, is_tuple_of
from centsatonce.numbers import common_unit, in_units, is_small_sum, sum_of, weighed
from centsatonce.tables import classes_of, totals_by_classes


def is_reckoning(table, value):
    """Return whether any value is a reckoning."""
    if not is_tuple_of(value, len(classes_of(table))):
        return False
    return all([is_an_integer(entry) for entry in value])


def total_reckonings(table):
    """Return the reckonings of all totals."""
    every = range(len(classes_of(table)))
    return tuple([tuple([int(at in total) for at in every]) for total in totals_by_classes(table)])


def total_reckoning(table, total):
    """Return the reckoning of a total: 1 for each of its classes, otherwise 0."""
    return total_reckonings(table)[total]


def is_beyond(reckoning):
    """Return whether an entry is above 1 or below -1."""
    return any([abs(entry) > 1 for entry in reckoning])


def agreements(one, other):
    """Return the lot of the classes at which both have 1, or both -1."""
    return tuple([at for at, entry in enumerate(one) if abs(entry) == 1 and entry == other[at]])


def clashes(one, other):
    """Return the lot of the classes at which one has 1 and the other one -1."""
    return tuple([at for at, entry in enumerate(one) if abs(entry) == 1 and entry == -other[at]])


def difference_of(one, other):
    """Return the entries of the first reckoning less those of the second one."""
    return tuple([entry - less for entry, less in zip(one, other)])


def opposite_reckoning(one):
    """Return a reckoning with the opposite of each entry."""
    return tuple([-entry for entry in one])


def class_errors(table, errors):
    """Return the errors of all classes, by those of the kinds."""
    return tuple([sum_of([errors[kind] for kind in kinds]) for kinds in classes_of(table)])


def reckoned(table, reckoning, errors):
    """Return the sum of each entry times the error of its class."""
    return weighed(reckoning, class_errors(table, errors))


def is_off(table, reckoning, errors):
    """Return whether what is reckoned is 1 or above, or -1 or below."""
    return is_off_by(reckoning, class_errors(table, errors))


def is_off_by(reckoning, of_classes):
    """Return whether what is reckoned by the errors of classes is 1 or above, or -1 or below."""
    return not is_small_sum([(entry * top, bottom) for entry, (top, bottom) in zip(reckoning, of_classes) if entry])


def in_one_unit(of_classes):
    """Return the errors of classes as so many units each, and how many units a whole is."""
    # With one bottom for all, many sums are sums of integers.
    unit = common_unit(of_classes)
    return ([in_units(one, unit) for one in of_classes], unit)


def summed(reckoning, units):
    """Return what is reckoned by the errors of classes in units."""
    return sum([entry * many for entry, many in zip(reckoning, units) if entry])


def are_all_small(reckonings, of_classes):
    """Return whether what is reckoned by each of some reckonings lies between -1 and 1."""
    units, whole = in_one_unit(of_classes)
    for reckoning in reckonings:
        if abs(summed(reckoning, units)) >= whole:
            return False
    return True
