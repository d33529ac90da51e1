"""Parts of a total: lots of one class, or of a white and a black one."""

from centsatonce.checks import is_lot_below
from centsatonce.tables import totals_by_classes


def classes_of_colour(table, colours, total, colour):
    """Return the classes of a total that have a colour."""
    return [number for number in totals_by_classes(table)[total] if colours[number] == colour]


def parts_of_total(table, colours, total):
    """Return some parts of a total that are as few as can be."""
    whites = classes_of_colour(table, colours, total, 1)
    blacks = classes_of_colour(table, colours, total, -1)
    parts = []
    for at in range(max(len(whites), len(blacks))):
        parts.append(tuple(sorted(whites[at:at + 1] + blacks[at:at + 1])))
    return tuple(parts)


def are_parts(table, colours, total, value):
    """Return whether any value is parts of a total."""
    if not isinstance(value, tuple):
        return False
    if not all([is_part(colours, part) for part in value]):
        return False
    classes = [number for part in value for number in part]
    return tuple(sorted(classes)) == totals_by_classes(table)[total]


def is_part(colours, value):
    """Return whether any value is a lot of one class, or of a white and a black one."""
    if not is_lot_below(value, len(colours)):
        return False
    if len(value) == 2:
        return colours[value[0]] != colours[value[1]]
    return len(value) == 1
