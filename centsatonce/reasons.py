"""Reasons, which bound sums of wholes, and bars, which show that no day meets a goal.

A reason is ("line", line, sign), ("kept", total, many, sign) or ("goal", total, sign).
"""

from centsatonce.checks import begins_with, is_an_integer, is_number_below, is_sign
from centsatonce.days import choices
from centsatonce.numbers import ZERO, added, ceiling_of, floor_of


def reason_weights(table, lines, reason):
    """Return for each line the sign of a reason if the line is in its sum, otherwise 0."""
    sign = reason[-1]
    return tuple([sign if is_summed(table, reason, at, line[0]) else 0 for at, line in enumerate(lines)])


def is_summed(table, reason, at, kind):
    """Return whether a line with an index and a kind is in the sum of a reason."""
    if reason[0] == "line":
        return at == reason[1]
    if reason[0] == "kept" and at >= reason[2]:
        return False
    return kind in table.totals[reason[1]]


def reason_bound(table, lines, goal, reason):
    """Return the integer by which the sum of a reason is bounded, for -1 with the other sign."""
    return bounds_of(table, lines, goal, (reason,))


def bounds_of(table, lines, goal, reasons):
    """Return what the bounds of some reasons add up to."""
    kept = sorted(set([reason[1] for reason in reasons if reason[0] == "kept"]))
    sums = {total: sums_along(table, lines, total) for total in kept}
    return sum([bound_by(sums, lines, goal, reason) for reason in reasons])


def sums_along(table, lines, total):
    """Return the sums of the amounts of a total among the first lines: none, one, and so on."""
    sums = [ZERO]
    for kind, amount in lines:
        sums.append(added(sums[-1], amount) if kind in table.totals[total] else sums[-1])
    return sums


def bound_by(sums, lines, goal, reason):
    """Return what reason_bound does, by the sums along the lines of the totals that it needs."""
    if reason[0] == "line":
        wholes = choices(lines[reason[1]][1])
        low, high = wholes[0], wholes[-1]
    elif reason[0] == "kept":
        exact = sums[reason[1]][reason[2]]
        low, high = floor_of(exact), ceiling_of(exact)
    else:
        low, high = goal[reason[1]]
    return high if reason[-1] == 1 else -low


def is_reason(table, lines, goal, value, kept):
    """Return whether any value is a reason."""
    if begins_with(value, "kept", 4):
        many = value[2]
        if kept is not True or not is_an_integer(many) or not 1 <= many <= len(lines):
            return False
        return is_number_below(value[1], len(table.totals)) and is_sign(value[3])
    if begins_with(value, "line", 3):
        return is_number_below(value[1], len(lines)) and is_sign(value[2])
    if not begins_with(value, "goal", 3) or not is_sign(value[2]):
        return False
    return is_number_below(value[1], len(table.totals)) and goal[value[1]] is not None


def are_reasons(table, lines, goal, value, kept):
    """Return whether any value is a tuple of reasons."""
    if not isinstance(value, tuple):
        return False
    return all([is_reason(table, lines, goal, reason, kept) for reason in value])


def weights_of(table, lines, reasons):
    """Return for each line what the weights of some reasons add up to."""
    sums = [0 for _ in lines]
    for reason in reasons:
        sums = [one + weight for one, weight in zip(sums, reason_weights(table, lines, reason))]
    return sums


def is_bar(table, lines, goal, value, kept=True):
    """Return whether any value is a bar."""
    if not are_reasons(table, lines, goal, value, kept):
        return False
    if any(weights_of(table, lines, value)):
        return False
    return bounds_of(table, lines, goal, value) < 0


def is_limit_paper(table, lines, goal, total, sign, bound, value, kept=True):
    """Return whether any value is reasons that bound the sum of a total, with a sign, by just a bound."""
    if not are_reasons(table, lines, goal, value, kept):
        return False
    wanted = [sign if kind in table.totals[total] else 0 for kind, amount in lines]
    if weights_of(table, lines, value) != wanted:
        return False
    return bounds_of(table, lines, goal, value) == bound
