"""Fewest lines: how soon whoever rounds can be beaten, and how to hold out longest."""

from centsatonce.days import choices, errors_behind, no_errors
from centsatonce.forcing import attack_along
from centsatonce.levels import by_entries, derivation_from, difference_from, grown, torn_pair
from centsatonce.reckonings import are_all_small, class_errors, in_one_unit, summed


def least_lines(table, errors):
    """Return the least height of an attack from errors, None if there is none."""
    levels, _ = grown(table)
    return lines_by(levels, torn_pair(levels[-1]) is None, class_errors(table, errors))


def lines_by(levels, is_whole, of_classes):
    """Return the least height by the levels, where the last one is whole or torn."""
    for number, level in enumerate(levels):
        if not are_all_small(level, of_classes):
            return number
    if is_whole:
        return None
    return len(levels) if far_pair(levels[-1], of_classes) else len(levels) + 1


def far_pair(level, of_classes):
    """Return some (one, other, class) of a level that agree at the class, 1 or more apart by errors, or None."""
    units, whole = in_one_unit(of_classes)
    values = {reckoning: summed(reckoning, units) for reckoning in level}
    for place, some in by_entries(level).items():
        number, entry = place
        ordered = sorted([(values[reckoning], reckoning) for reckoning in some])
        if entry != 0 and ordered[-1][0] - ordered[0][0] >= whole:
            return (ordered[-1][1], ordered[0][1], number)
    return None


def least_height(table):
    """Return the least height of an attack from no errors, None if there is none."""
    return least_lines(table, no_errors(table))


def quickest_attack(table, errors):
    """Return some attack from errors of the least height, None if there is none."""
    levels, sources = grown(table)
    of_classes = class_errors(table, errors)
    for level in levels:
        off = [reckoning for reckoning in level if not are_all_small((reckoning,), of_classes)]
        if off:
            return attack_along(table, errors, derivation_from(sources, off[0]))
    pair = torn_pair(levels[-1])
    if pair is None:
        return None
    far = far_pair(levels[-1], of_classes)
    return attack_along(table, errors, difference_from(sources, far or pair))


def stubborn(table, errors, kind, amount):
    """Return the whole next to an amount behind which the least height of an attack is greater, or the lower one."""
    levels, _ = grown(table)
    return stubborn_whole(table, levels, torn_pair(levels[-1]) is None, errors, (kind, amount))


def stubborn_whole(table, levels, is_whole, errors, line):
    """Return what stubborn does, by the levels, where the last one is whole or torn."""
    kind, amount = line
    most, found = -1, None
    for whole in choices(amount):
        lines = lines_by(levels, is_whole, class_errors(table, errors_behind(errors, kind, amount, whole)))
        if lines is None:
            return whole
        if lines > most:
            most, found = lines, whole
    return found


def stubborn_day(table, lines):
    """Return the day in which each line is rounded as stubborn tells."""
    levels, _ = grown(table)
    is_whole = torn_pair(levels[-1]) is None
    errors = no_errors(table)
    day = []
    for kind, amount in lines:
        whole = stubborn_whole(table, levels, is_whole, errors, (kind, amount))
        day.append((kind, amount, whole))
        errors = errors_behind(errors, kind, amount, whole)
    return tuple(day)
