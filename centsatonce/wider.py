"""Widths: how many classes of one colour totals have, whatever the colours are."""

from centsatonce.checks import is_sign, is_tuple_of
from centsatonce.pieces import pieces_of
from centsatonce.tables import classes_of, totals_by_classes


def is_colouring(table, value):
    """Return whether any value is colours."""
    if not is_tuple_of(value, len(classes_of(table))):
        return False
    return all([is_sign(colour) for colour in value])


def counts_of(colours, classes):
    """Return the numbers of the white and of the black ones of some classes."""
    whites = len([number for number in classes if colours[number] == 1])
    return (whites, len(classes) - whites)


def whites_and_blacks(table, colours, total):
    """Return the numbers of the white and of the black classes of a total."""
    return counts_of(colours, totals_by_classes(table)[total])


def width_of(table, colours, total):
    """Return the greater one of the numbers of white and of black classes of a total."""
    return max(whites_and_blacks(table, colours, total))


def widths_of(table, colours):
    """Return the widths of all totals."""
    return tuple([max(counts_of(colours, classes)) for classes in totals_by_classes(table)])


def bound_of(table, colours, weights):
    """Return the bound of the weighed error."""
    bound = 0
    for piece in pieces_of(table):
        products = [weights[number] * colours[number] for number in piece]
        above = sum([one for one in products if one > 0])
        below = sum([one for one in products if one < 0])
        bound += max(above, -below)
    return bound
