"""Steps of told sequences: reckonings without cuts, each of which holds from some number of lines on.

A step is ("total", total, sign), or ("less", line, one, other) with the numbers of two earlier steps.
"""

from centsatonce.checks import begins_with, is_number_below
from centsatonce.derivations import is_total_step, needed_steps, reckoning_of_step
from centsatonce.reckonings import difference_of, is_beyond, opposite_reckoning, total_reckonings
from centsatonce.sequences import cut, met_classes
from centsatonce.tables import class_numbers


def line_classes(table, sequence):
    """Return for each line of a sequence the number of its class, None if it has none."""
    numbers = class_numbers(table)
    return [numbers[kind] for kind in sequence]


def hold_of(step, many):
    """Return the number of lines from which on a step holds, of so many."""
    return many if step[0] == "total" else step[1]


def facts_of(table, sequence, steps):
    """Return for each of some right steps its reckoning and the number of lines from which on it holds."""
    base = total_reckonings(table)
    known = []
    for step in steps:
        known.append(reckoning_of_step(base, known, step))
    return [(one, hold_of(step, len(sequence))) for one, step in zip(known, steps)]


def are_steps(table, sequence, value):
    """Return whether any value is steps for a sequence."""
    if not isinstance(value, tuple) or not value:
        return False
    base = total_reckonings(table)
    classes = line_classes(table, sequence)
    known = []
    facts = []
    for step in value:
        if not is_total_step(table, step) and not is_told_difference(classes, facts, step):
            return False
        known.append(reckoning_of_step(base, known, step))
        facts.append((known[-1], hold_of(step, len(sequence))))
    return True


def is_told_difference(classes, facts, step):
    """Return whether any value is a difference of earlier steps, for lines of some classes."""
    if not begins_with(step, "less", 4) or not is_number_below(step[1], len(classes)):
        return False
    if classes[step[1]] is None or not all([is_number_below(part, len(facts)) for part in step[2:]]):
        return False
    parts = [facts[part] for part in step[2:]]
    return all([one[classes[step[1]]] == 1 and hold > step[1] for one, hold in parts])


class Dues:
    """What is due at the places of a sequence, by the steps of which it comes about.

    It changes: it goes back from the last place, up to one at which something is beyond. For each
    place it has a dict from the reckonings due there, cut, to the numbers of their steps, which are
    not cut.
    """

    def __init__(self, table, sequence):
        self.classes = line_classes(table, sequence)
        self.steps = []
        self.places = [self._due_last(table)]
        for line in reversed(range(len(self.classes))):
            self.places.append(self._due_ahead(line, self.places[-1]))
            if self.beyond() is not None:
                break

    def _due_last(self, table):
        """Return what is due at the last place."""
        met = met_classes(self.classes)
        due = {}
        for total, one in enumerate(total_reckonings(table)):
            self._add(due, cut(one, met), ("total", total, 1))
            self._add(due, cut(opposite_reckoning(one), met), ("total", total, -1))
        return due

    def _due_ahead(self, line, behind):
        """Return what is due ahead of a line, by what is due behind it."""
        number = self.classes[line]
        if number is None:
            return behind
        met = met_classes(self.classes[:line])
        due = {}
        for one, at in behind.items():
            shown = cut(one, met)
            if any(shown) and shown not in due:
                due[shown] = at
        ones = [one for one in behind if one[number] == 1]
        for one in ones:
            for other in ones:
                step = ("less", line, behind[one], behind[other])
                self._add(due, cut(difference_of(one, other), met), step)
        return due

    def _add(self, due, one, step):
        """Add a step, if what it gives is not due yet and is not 0 alone."""
        if any(one) and one not in due:
            due[one] = len(self.steps)
            self.steps.append(step)

    def beyond(self):
        """Return some reckoning due at the place reached that is beyond, None if there is none."""
        for one in self.places[-1]:
            if is_beyond(one):
                return one
        return None

    def reached(self):
        """Return the place that is reached."""
        return len(self.classes) - len(self.places) + 1

    def due_at(self, place):
        """Return what is due at a place."""
        return self.places[len(self.classes) - place]

    def steps_of(self, number):
        """Return the steps on which one rests, it among them, numbered anew."""
        return needed_steps(tuple(self.steps[:number + 1]))
