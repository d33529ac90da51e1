"""One total and many strikes: how far its error can be kept, and how it is worn out."""

from centsatonce.days import error_of_line
from centsatonce.errors import Refused
from centsatonce.numbers import ZERO, added, ceiling_of, floor_of, fraction_of, is_less, opposite_of, taken, timed
from centsatonce.tapes import count_strikes, is_strike, standing_places, tape_errors

MINUS_HALF = (-1, 2)
MOST_BOUND = 400


def even_tape(table, total, deeds):
    """Return the tape in which the error of a total, of all lines struck or not, stays near 0."""
    error = ZERO
    tape = []
    for deed in deeds:
        if is_strike(deed):
            tape.append(deed)
            continue
        kind, amount = deed
        whole = floor_of(amount)
        if kind in table.totals[total]:
            if is_less(added(error, error_of_line(amount, whole)), MINUS_HALF):
                whole += 1
            error = added(error, error_of_line(amount, whole))
        tape.append((kind, amount, whole))
    return tuple(tape)


def parts_of_whole(most, count):
    """Return the least number p, 2 or more, such that a fraction is at most (count + 1/2) (p - 1) / p."""
    edge = fraction_of(2 * count + 1, 2)
    if most[0] <= 0 or not is_less(most, edge):
        raise Refused("most")
    left = taken(edge, most)
    # edge / left, as p (edge - most) is to be at least edge.
    return max(2, ceiling_of(timed(edge, (left[1], left[0]))))


def wearing_bound(most, count):
    """Return how many deeds are enough to bring a total's error to a fraction, with so many strikes."""
    parts = parts_of_whole(most, count)
    bound = ceiling_of(added(timed((3 * parts, 1), most), (parts * (2 * count + 1) + count, 1)))
    if bound > MOST_BOUND:
        raise Refused("size")
    return bound


def wearing_deed(table, total, most, count, tape):
    """Return the next deed that wears out a total, None if its error is as great as told."""
    # It refuses what this refuses, too.
    wearing_bound(most, count)
    parts = parts_of_whole(most, count)
    error = tape_errors(table, tape)[total]
    if not is_less((abs(error[0]), error[1]), most):
        return None
    left = count - count_strikes(tape)
    small, great = (1, parts), (parts - 1, parts)
    ups = standing_like(table, total, tape, small, 1)
    downs = standing_like(table, total, tape, great, 0)
    reach = timed((left, 1), great)
    if len(ups) >= left and not is_less(opposite_of(most), taken(error, reach)):
        return ("struck", ups[-1])
    if len(downs) >= left and not is_less(added(error, reach), most):
        return ("struck", downs[-1])
    return (table.totals[total][0], great if len(ups) >= left > len(downs) else small)


def standing_like(table, total, tape, amount, whole):
    """Return the indexes of the standing lines of a total with an amount and a whole."""
    kinds = table.totals[total]
    return [at for at in standing_places(tape) if tape[at][0] in kinds and tape[at][1:] == (amount, whole)]
