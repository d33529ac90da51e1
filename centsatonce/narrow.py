"""Colours by which all totals are as narrow as can be."""

from centsatonce.tables import classes_of, totals_by_classes
from centsatonce.wider import counts_of


def colours_within(table, most):
    """Return some colours by which the width of each total is at most its number, None if there are none."""
    return completed_colours(totals_by_classes(table), most, len(classes_of(table)), ())


def completed_colours(totals, most, many, known):
    """Return colours of so many classes that begin with known ones and keep to the numbers, or None."""
    if not is_within(totals, most, known):
        return None
    if len(known) == many:
        return known
    for colour in (1, -1):
        colours = completed_colours(totals, most, many, known + (colour,))
        if colours is not None:
            return colours
    return None


def is_within(totals, most, known):
    """Return whether no total has more classes of one colour, among the first ones, than its number."""
    for classes, number in zip(totals, most):
        if max(counts_of(known, [at for at in classes if at < len(known)])) > number:
            return False
    return True


def narrowest(table):
    """Return the least number that is the greatest width of a total by some colours."""
    return narrowest_pair(table)[0]


def narrow_colours(table):
    """Return some colours by which the greatest width of a total is as small as can be."""
    return narrowest_pair(table)[1]


def narrowest_pair(table):
    """Return the least greatest width, and some colours by which it is that."""
    # No width is below half of the number of the classes.
    number = max([(len(classes) + 1) // 2 for classes in totals_by_classes(table)], default=0)
    while True:
        colours = colours_within(table, tuple([number for _ in table.totals]))
        if colours is not None:
            return (number, colours)
        number += 1
