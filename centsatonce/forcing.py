"""Attacks along a derivation."""

from centsatonce.days import errors_behind
from centsatonce.derivations import reckonings_along
from centsatonce.errors import Refused
from centsatonce.pressing import bursting_line, parting_line
from centsatonce.reckonings import class_errors, is_beyond, is_off, is_off_by

MOST_DEPTH = 6


def depths_of(derivation):
    """Return the depths of all steps."""
    depths = []
    for step in derivation:
        if step[0] == "total":
            depths.append(0)
        else:
            depths.append(1 + max(depths[step[2]], depths[step[3]]))
    return tuple(depths)


def attack_along(table, errors, derivation):
    """Return some attack from errors that is no higher than the least depth of a step that is off."""
    depths = depths_of(derivation)
    if max(depths) > MOST_DEPTH:
        raise Refused("depth")
    reckonings = reckonings_along(table, derivation)
    of_classes = class_errors(table, errors)
    off = [at for at, one in enumerate(reckonings) if is_off_by(one, of_classes)]
    if off:
        least = min([(depths[at], at) for at in off])
        return attack_on(table, derivation, reckonings, errors, least[1])
    if not is_beyond(reckonings[-1]):
        raise Refused("derivation")
    line = bursting_line(table, reckonings[-1], errors)
    return split_attack(table, derivation, reckonings, errors, line, (len(derivation) - 1,))


def attack_on(table, derivation, reckonings, errors, at):
    """Return an attack from errors by which a step is off."""
    step = derivation[at]
    if step[0] == "total":
        return ("off", step[1])
    parts = step[2:]
    for part in parts:
        if is_off(table, reckonings[part], errors):
            return attack_on(table, derivation, reckonings, errors, part)
    line = parting_line(table, step, reckonings, errors)
    return split_attack(table, derivation, reckonings, errors, line, parts)


def split_attack(table, derivation, reckonings, errors, line, steps):
    """Return an attack that begins with a line behind which one of some steps is off."""
    word, kind, amount = line
    trees = []
    for whole in (1, 0):
        behind = errors_behind(errors, kind, amount, whole)
        off = [at for at in steps if is_off(table, reckonings[at], behind)]
        trees.append(attack_on(table, derivation, reckonings, behind, off[0]))
    return (word, kind, amount, trees[0], trees[1])
