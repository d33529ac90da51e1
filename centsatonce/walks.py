"""How long counted errors can be kept, and the wholes by which some clerk can go on.

The posts of a piece are its classes, at their signed errors, and the ground, told by None, at 0.
Bounds tell for pairs of posts by how much more than a whole the first one must stay less than
above the second one. A line of a class drives two other posts apart by way of it.
"""

from centsatonce.begunheights import begun_heights, begun_points
from centsatonce.court import is_good, sides_of_total
from centsatonce.days import choices, errors_behind
from centsatonce.held import blocks_or_refused
from centsatonce.numbers import common_unit, in_units
from centsatonce.pieces import piece_totals
from centsatonce.window import are_close, signed_errors

LEAPING_CLASSES = 2
LINES_BEFORE_LEAP = 2


def can_go_on(table, starts, errors):
    """Return whether some clerk can keep all counted errors, whatever lines come."""
    if not is_good(table):
        return False
    heights = begun_heights(table, starts)
    if heights is None:
        return False
    points = begun_points(table, blocks_or_refused(table), starts, heights, errors)
    return all([are_close(own) for own in points])


def wholes_begun(table, starts, errors, kind, amount):
    """Return the lot of the wholes of a line behind which some clerk can go on."""
    wholes = choices(amount)
    return tuple([whole for whole in wholes if can_go_on(table, starts, errors_behind(errors, kind, amount, whole))])


def lines_begun(table, starts, errors):
    """Return the least number of lines for which no clerk can keep the counted errors, None if one can for ever."""
    blocks = blocks_or_refused(table)
    signed = signed_errors(table, blocks, errors)
    unit = common_unit(list(signed) + list(starts))
    fewest = None
    for piece in blocks.pieces:
        places = {number: in_units(signed[number], unit) for number in piece}
        bounds = first_bounds(table, blocks, [in_units(start, unit) for start in starts], piece)
        lines = lines_of_piece(piece, {**places, None: 0}, bounds, unit)
        if lines is not None and (fewest is None or lines < fewest):
            fewest = lines
    return fewest


def first_bounds(table, blocks, starts, piece):
    """Return the bounds by which the counted errors of a piece lie between -1 and 1 now."""
    bounds = {}
    for total in piece_totals(table, piece):
        white, black = sides_of_total(table, blocks, total)
        tighten(bounds, (white, black), starts[total])
        tighten(bounds, (black, white), -starts[total])
    return bounds


def tighten(bounds, pair, bound):
    """Note a bound for a pair of posts, if there is none as tight."""
    if pair not in bounds or bound < bounds[pair]:
        bounds[pair] = bound


def bounds_behind(piece, bounds):
    """Return the bounds that are needed to keep some bounds behind one more line, whatever it is."""
    behind = {pair: bounds[pair] for pair in bounds}
    for way in piece:
        before = [(one, bound) for (one, end), bound in bounds.items() if end == way and one != way]
        after = [(other, bound) for (start, other), bound in bounds.items() if start == way and other != way]
        for one, to_way in before:
            for other, from_way in after:
                tighten(behind, (one, other), to_way + from_way)
    return behind


def rooms(places, bounds, unit):
    """Return for each pair of posts how much less than its bound allows the first one is above the second one."""
    return {(one, other): unit + bounds[(one, other)] - places[one] + places[other] for one, other in bounds}


def lines_of_piece(piece, places, bounds, unit):
    """Return the least number of lines by which some pair of posts comes to its bound, None if none does."""
    lines = 0
    while all([room > 0 for room in rooms(places, bounds, unit).values()]):
        if len(piece) == LEAPING_CLASSES and lines == LINES_BEFORE_LEAP:
            bounds, leapt = leap(piece, places, bounds, unit)
            lines += leapt
        behind = bounds_behind(piece, bounds)
        if behind == bounds:
            return None
        bounds = behind
        lines += 1
    return lines


def leap(piece, places, bounds, unit):
    """Return the bounds of a piece of two classes behind so many lines as they surely hold, and how many these are.

    Such bounds fall with each two lines by as much as with the two before: by how much the starts of
    the totals of both classes are apart.
    """
    falls = {}
    for pair, bound in bounds_behind(piece, bounds_behind(piece, bounds)).items():
        falls[pair] = bounds[pair] - bound
    room = rooms(places, bounds, unit)
    times = min([(room[pair] - 1) // fall for pair, fall in falls.items() if fall > 0], default=0)
    return ({pair: bounds[pair] - times * falls[pair] for pair in bounds}, 2 * times)
