"""Errors that can be held: from which some clerk who knows nothing ahead can keep the totals."""

from centsatonce.checks import is_number
from centsatonce.court import Blocks, court
from centsatonce.days import choices, errors_behind
from centsatonce.errors import InvalidNumber, Refused
from centsatonce.numbers import ZERO, is_small, taken
from centsatonce.reaches import distance, lines_for, post_pairs
from centsatonce.window import signed_errors


def blocks_or_refused(table):
    """Return some right blocks, or refuse a table that has none."""
    verdict = court(table)
    if not isinstance(verdict, Blocks):
        raise Refused("knot")
    return verdict


def post_places(table, blocks, errors):
    """Return where all posts are: the classes at their signed errors, the ground at 0."""
    return signed_errors(table, blocks, errors) + (ZERO,)


def apart(table, errors, one, other):
    """Return how far two posts are apart."""
    at = post_places(table, blocks_or_refused(table), errors)
    if distance(table, one, other) is None:
        raise Refused("posts")
    top, bottom = taken(at[one], at[other])
    return (abs(top), bottom)


def lost_pairs(table, errors):
    """Return the lot of the triples (distance, one, other) of all pairs of posts that are 1 or more apart."""
    at = post_places(table, blocks_or_refused(table), errors)
    return tuple([pair for pair in post_pairs(table) if not is_small(taken(at[pair[1]], at[pair[2]]))])


def are_held(table, errors):
    """Return whether errors are held, never without blocks."""
    return isinstance(court(table), Blocks) and not lost_pairs(table, errors)


def are_held_for(table, errors, lines):
    """Return whether errors are held for a number of lines."""
    check_number(lines)
    return holds(table, blocks_or_refused(table), near_pairs(table, lines), errors)


def check_number(lines):
    """Refuse any value that is no number of lines."""
    if not is_number(lines):
        raise InvalidNumber("lines")


def near_pairs(table, lines):
    """Return the pairs of posts that so many lines, or any number for None, can drive apart."""
    pairs = post_pairs(table)
    return pairs if lines is None else [pair for pair in pairs if lines_for(pair[0]) <= lines]


def holds(table, blocks, pairs, errors):
    """Return whether all of some pairs of posts are less than 1 apart."""
    at = post_places(table, blocks, errors)
    return all([is_small(taken(at[one], at[other])) for _, one, other in pairs])


def lasting_wholes(table, errors, kind, amount, lines=None):
    """Return the lot of the wholes behind which errors are held for so many lines, or for ever."""
    if lines is not None:
        check_number(lines)
    blocks = blocks_or_refused(table)
    return wholes_within(table, blocks, near_pairs(table, lines), errors, (kind, amount))


def wholes_within(table, blocks, pairs, errors, line):
    """Return the lot of the wholes of a line behind which some pairs of posts are less than 1 apart."""
    kind, amount = line
    wholes = choices(amount)
    return tuple([whole for whole in wholes if holds(table, blocks, pairs, errors_behind(errors, kind, amount, whole))])


def lasting_day(table, errors, lines):
    """Return the day in which errors stay held for as many lines as are still to come."""
    if not are_held_for(table, errors, len(lines)):
        raise Refused("lost")
    blocks = blocks_or_refused(table)
    day = []
    for kind, amount in lines:
        pairs = near_pairs(table, len(lines) - len(day) - 1)
        whole = wholes_within(table, blocks, pairs, errors, (kind, amount))[0]
        day.append((kind, amount, whole))
        errors = errors_behind(errors, kind, amount, whole)
    return tuple(day)
