"""Told sequences: whether totals can be kept if only the amounts are not known ahead."""

from centsatonce.reckonings import difference_of, is_beyond, opposite_reckoning, total_reckonings
from centsatonce.tables import class_numbers


def closures_back(table, sequence):
    """Return the lots of reckonings due at all places, None if one of these is beyond."""
    numbers = class_numbers(table)
    classes = [numbers[kind] for kind in sequence]
    every = total_reckonings(table)
    turned = tuple([opposite_reckoning(one) for one in every])
    due = cut_lot(every + turned, met_classes(classes))
    lots = [due]
    for at in reversed(range(len(classes))):
        if classes[at] is not None:
            due = due_ahead(due, classes[at], met_classes(classes[:at]))
        if any([is_beyond(one) for one in due]):
            return None
        lots.append(due)
    return tuple(reversed(lots))


def met_classes(classes):
    """Return the lot of the classes of some lines."""
    return tuple(sorted(set([number for number in classes if number is not None])))


def due_ahead(due, number, met):
    """Return what is due ahead of a line of a class, where just some classes are met."""
    known = {one: True for one in due}
    fresh = [one for one in new_differences(due, number) if one not in known]
    if not fresh and number in met:
        return due
    return cut_lot(due + tuple(fresh), met)


def cut_lot(some, met):
    """Return the lot of some reckonings, cut where just some classes are met, without 0 alone."""
    lot = sorted(set([cut(one, met) for one in some]))
    return tuple([one for one in lot if any(one)])


def cut(one, met):
    """Return a reckoning with 0 at all classes that are not met."""
    return tuple([entry if number in met else 0 for number, entry in enumerate(one)])


def new_differences(due, number):
    """Return the differences of each two unlike reckonings with 1 at a class."""
    ones = [one for one in due if one[number] == 1]
    return [difference_of(one, other) for one in ones for other in ones if one != other]


def is_kept(table, sequence):
    """Return whether somebody who knows the sequence alone can keep all its days."""
    return closures_back(table, sequence) is not None


def lost_line(table, sequence):
    """Return the greatest number from whose line on all lines alone cannot be kept, None if all can."""
    if is_kept(table, sequence):
        return None
    # More lines ahead are no easier, so what is lost is lost from each line before, too.
    lost, kept = 0, len(sequence)
    while kept - lost > 1:
        middle = (lost + kept) // 2
        if is_kept(table, sequence[middle:]):
            kept = middle
        else:
            lost = middle
    return lost
