"""Papers of told sequences: what shows that they can be kept, or that they cannot."""

from centsatonce.checks import is_an_integer, is_ascending, is_number_below, is_tuple_of
from centsatonce.errors import Refused
from centsatonce.reckonings import class_errors, difference_of, is_off, is_off_by, opposite_reckoning
from centsatonce.reckonings import total_reckonings
from centsatonce.sequences import closures_back, cut, cut_lot, met_classes
from centsatonce.tables import classes_of
from centsatonce.toldsteps import Dues, are_steps, facts_of, line_classes


class ToldPaper:
    """A lot of reckonings for each place; any values."""

    def __init__(self, lots):
        self.lots = lots


class BeatenPaper:
    """A line, and steps to what cannot be kept from it on; any values."""

    def __init__(self, line, steps):
        self.line = line
        self.steps = steps


class UnheldPaper:
    """Steps to what is off by some errors at a place; any values."""

    def __init__(self, steps):
        self.steps = steps


def told_paper(table, sequence):
    """Return some right ToldPaper or BeatenPaper."""
    lots = closures_back(table, sequence)
    if lots is not None:
        return ToldPaper(lots)
    dues = Dues(table, sequence)
    beyond = dues.beyond()
    number = [at for at, entry in enumerate(beyond) if abs(entry) > 1][0]
    # What is due is cut, so its entries are at classes that are met.
    line = dues.classes[:dues.reached()].index(number)
    return BeatenPaper(line, dues.steps_of(dues.places[-1][beyond]))


def unheld_paper(table, sequence, place, errors):
    """Return some right UnheldPaper, None if the errors are held."""
    dues = Dues(table, sequence)
    if dues.beyond() is not None:
        raise Refused("lost")
    of_classes = class_errors(table, errors)
    for one, number in dues.due_at(place).items():
        if is_off_by(one, of_classes):
            return UnheldPaper(dues.steps_of(number))
    return None


def is_told_paper(table, sequence, value):
    """Return whether any value is a right ToldPaper."""
    if not isinstance(value, ToldPaper) or not is_tuple_of(value.lots, len(sequence) + 1):
        return False
    many = len(classes_of(table))
    classes = line_classes(table, sequence)
    for place, lot in enumerate(value.lots):
        if not is_told_lot(many, met_classes(classes[:place]), lot):
            return False
    for line, number in enumerate(classes):
        if not has_due(value.lots[line], value.lots[line + 1], number, met_classes(classes[:line])):
            return False
    return ends_due(table, classes, value.lots[-1])


def is_told_lot(many, met, value):
    """Return whether any value is a lot of reckonings for a place, with their opposites."""
    if not isinstance(value, tuple) or not all([is_told_reckoning(many, met, one) for one in value]):
        return False
    if not is_ascending(value):
        return False
    known = {one: True for one in value}
    return all([opposite_reckoning(one) in known for one in value])


def is_told_reckoning(many, met, value):
    """Return whether any value is a reckoning of entries -1, 0, 1, not all 0, cut where some classes are met."""
    if not is_tuple_of(value, many):
        return False
    if not all([is_an_integer(entry) and abs(entry) <= 1 for entry in value]):
        return False
    return any(value) and cut(value, met) == value


def ends_due(table, classes, lot):
    """Return whether a lot has all that is due at the last place."""
    every = total_reckonings(table)
    due = cut_lot(every + tuple([opposite_reckoning(one) for one in every]), met_classes(classes))
    known = {one: True for one in lot}
    return all([one in known for one in due])


def has_due(lot, behind, number, met):
    """Return whether a lot has all that is due ahead of a line of a class, by what is due behind it."""
    known = {one: True for one in lot}
    for one in behind:
        if not is_known_cut(known, one, met):
            return False
    ones = [one for one in behind if number is not None and one[number] == 1]
    for one in ones:
        for other in ones:
            if not is_known_cut(known, difference_of(one, other), met):
                return False
    return True


def is_known_cut(known, one, met):
    """Return whether a reckoning, cut, is known or 0 alone."""
    shown = cut(one, met)
    return shown in known or not any(shown)


def is_beaten_paper(table, sequence, value):
    """Return whether any value is a right BeatenPaper."""
    if not isinstance(value, BeatenPaper) or not is_number_below(value.line, len(sequence)):
        return False
    number = line_classes(table, sequence)[value.line]
    if number is None or not are_steps(table, sequence, value.steps):
        return False
    last, hold = facts_of(table, sequence, value.steps)[-1]
    return hold > value.line and abs(last[number]) > 1


def is_unheld_paper(table, sequence, place, errors, value):
    """Return whether any value is a right UnheldPaper."""
    if not isinstance(value, UnheldPaper) or not are_steps(table, sequence, value.steps):
        return False
    last, hold = facts_of(table, sequence, value.steps)[-1]
    return hold >= place and is_off(table, last, errors)
