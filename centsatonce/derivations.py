"""Derivations: reckonings that come of those of totals by taking differences."""

from centsatonce.checks import begins_with, is_number_below, is_sign
from centsatonce.reckonings import agreements, difference_of, is_beyond, opposite_reckoning
from centsatonce.reckonings import total_reckonings
from centsatonce.tables import classes_of


def is_derivation(table, value):
    """Return whether any value is a derivation."""
    if not isinstance(value, tuple) or not value:
        return False
    base = total_reckonings(table)
    many = len(classes_of(table))
    known = []
    for step in value:
        if not is_total_step(table, step) and not is_less_step(many, known, step):
            return False
        known.append(reckoning_of_step(base, known, step))
    return True


def is_total_step(table, step):
    """Return whether any value is a step of a total."""
    if not begins_with(step, "total", 3):
        return False
    return is_number_below(step[1], len(table.totals)) and is_sign(step[2])


def is_less_step(many, known, step):
    """Return whether any value is a difference, at one of so many classes, of known reckonings."""
    if not begins_with(step, "less", 4) or not is_number_below(step[1], many):
        return False
    if not is_number_below(step[2], len(known)) or not is_number_below(step[3], len(known)):
        return False
    return can_be_joined(known[step[2]], known[step[3]], step[1])


def can_be_joined(one, other, number):
    """Return whether two reckonings, neither beyond, agree at a class."""
    return not is_beyond(one) and not is_beyond(other) and number in agreements(one, other)


def reckoning_of_step(base, known, step):
    """Return the reckoning of a step, by those of totals and those of the steps before."""
    if step[0] == "less":
        return difference_of(known[step[2]], known[step[3]])
    return base[step[1]] if step[2] == 1 else opposite_reckoning(base[step[1]])


def reckonings_along(table, derivation):
    """Return the reckonings of all steps."""
    base = total_reckonings(table)
    known = []
    for step in derivation:
        known.append(reckoning_of_step(base, known, step))
    return tuple(known)


def derived_by(table, derivation):
    """Return the reckoning of the last step."""
    return reckonings_along(table, derivation)[-1]


def count_differences(derivation):
    """Return how many steps are differences."""
    return len([step for step in derivation if step[0] == "less"])


def turned_derivation(derivation):
    """Return the derivation with the other sign in each step of a total."""
    turned = []
    for step in derivation:
        turned.append(step if step[0] == "less" else ("total", step[1], -step[2]))
    return tuple(turned)


def moved_step(step, places):
    """Return a step whose parts are told by the new places of their numbers."""
    if step[0] == "total":
        return step
    return ("less", step[1], places[step[2]], places[step[3]])


def joined_derivations(one, other, number):
    """Return two derivations and the difference of what they derive, at a class."""
    places = {at: len(one) + at for at in range(len(other))}
    moved = [moved_step(step, places) for step in other]
    return one + tuple(moved) + (("less", number, len(one) - 1, len(one) + len(other) - 1),)


def needed_steps(derivation):
    """Return the steps on which the last one rests, it among them, numbered anew."""
    needed = {len(derivation) - 1: True}
    for at in reversed(range(len(derivation))):
        if at in needed and derivation[at][0] == "less":
            needed[derivation[at][2]] = True
            needed[derivation[at][3]] = True
    left = sorted(list(needed))
    places = {at: place for place, at in enumerate(left)}
    return tuple([moved_step(derivation[at], places) for at in left])
