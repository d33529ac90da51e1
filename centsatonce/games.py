"""What clerks can do who know all lines, their kinds alone, or nothing ahead.

In a game all fractions are whole numbers of one common unit. A state has the errors of all
totals; a move, a line that may come, is a tuple of the changes from which the clerk chooses.
"""

from centsatonce.days import choices, error_of_line, no_errors, totals_behind, totals_by
from centsatonce.errors import Refused
from centsatonce.numbers import are_small, common_unit, in_units, part_of

MOST_GAME_LINES = 12
MOST_ROWS = 5000


def kept_days(table, lines):
    """Return the ascending tuple of all kept days with these lines."""
    if len(lines) > MOST_GAME_LINES:
        raise Refused("size")
    found = [((), totals_by(table, no_errors(table)))]
    for kind, amount in lines:
        longer = []
        for day, errors in found:
            for whole in choices(amount):
                behind = totals_behind(table, errors, kind, error_of_line(amount, whole))
                if are_small(behind):
                    longer.append((day + ((kind, amount, whole),), behind))
        found = longer
    return tuple([day for day, errors in found])


def can_keep(table, fractions, length):
    """Return whether a clerk can who knows nothing ahead, from no errors."""
    return can_keep_from(table, no_errors(table), fractions, length)


def can_keep_from(table, errors, fractions, length):
    """Return whether a clerk can who knows nothing ahead, for so many lines of any kinds."""
    check_size(len(fractions) * len(table.kinds), length)
    return wins(table, errors, [tuple(range(len(table.kinds)))] * length, fractions)


def can_keep_told(table, errors, sequence, fractions):
    """Return whether a clerk can who knows the kinds of the lines, but not their amounts."""
    check_size(len(fractions), len(sequence))
    return wins(table, errors, [(kind,) for kind in sequence], fractions)


def check_size(many, length):
    """Refuse games of too many lines, or of too many rows of them."""
    if length > MOST_GAME_LINES:
        raise Refused("size")
    rows = 1
    for _ in range(length):
        rows = rows * many
    if rows > MOST_ROWS:
        raise Refused("size")


def wins(table, errors, kinds_ahead, fractions):
    """Return whether a clerk can keep lines each of which is of one of some kinds."""
    beginning = totals_by(table, errors)
    parts = sorted(set([part_of(one) for one in fractions]))
    unit = common_unit(list(beginning) + parts)
    moves = {}
    for kinds in kinds_ahead:
        if kinds not in moves:
            moves[kinds] = moves_of(table, kinds, [in_units(part, unit) for part in parts])
    state = tuple([in_units(error, unit) for error in beginning])
    return survives(unit, state, [moves[kinds] for kinds in kinds_ahead], {})


def moves_of(table, kinds, parts):
    """Return the unlike moves that lines of some kinds and parts of a whole are."""
    return sorted(set([move_of(table, kind, part) for kind in kinds for part in parts]))


def move_of(table, kind, part):
    """Return which totals a line changes, and its part of a whole."""
    return (tuple([int(kind in total) for total in table.totals]), part)


def changes_of(part, unit):
    """Return the changes of an error from which a clerk chooses."""
    return (-part, unit - part) if part else (0,)


def states_behind(unit, state, move):
    """Return the states that a clerk can choose behind a line, off or not."""
    hit, part = move
    states = []
    for change in changes_of(part, unit):
        states.append(tuple([error + change * many for error, many in zip(state, hit)]))
    return states


def survives(unit, state, ahead, known):
    """Return whether a clerk can keep a state and those behind all lines ahead.

    What is found out is noted in known: states come about in many ways.
    """
    if any([abs(error) >= unit for error in state]):
        return False
    if not ahead:
        return True
    key = (len(ahead), state)
    if key not in known:
        known[key] = survives_all(unit, state, ahead, known)
    return known[key]


def survives_all(unit, state, ahead, known):
    """Return whether a clerk can go on behind each line that may come first."""
    for move in ahead[0]:
        if not survives_move(unit, state, move, ahead[1:], known):
            return False
    return True


def survives_move(unit, state, move, ahead, known):
    """Return whether a clerk can go on behind one line in some way."""
    for behind in states_behind(unit, state, move):
        if survives(unit, behind, ahead, known):
            return True
    return False
