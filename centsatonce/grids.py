"""Held errors on a grid, how many there are, and days that clear errors."""

from centsatonce.checks import is_number
from centsatonce.court import sides_of_total
from centsatonce.errors import InvalidNumber, Refused
from centsatonce.held import are_held, blocks_or_refused
from centsatonce.numbers import ZERO, fraction_of, taken, timed
from centsatonce.pieces import piece_totals
from centsatonce.tables import classes_of
from centsatonce.window import fixed_pieces, signed_errors

MOST_TUPLES = 500


def count_held(table, bottom):
    """Return how many tuples of errors of totals, whose bottoms divide a number, belong to held errors."""
    blocks = grid_blocks(table, bottom)
    many = 1
    for piece, fixed in zip(blocks.pieces, fixed_pieces(table, blocks)):
        points = len(piece) + int(fixed)
        many = many * (power_of(bottom, points) - power_of(bottom - 1, points))
    return many


def grid_blocks(table, bottom):
    """Return the blocks of a table, or refuse any value as bottom, then a table that has none."""
    if not is_number(bottom) or bottom == 0:
        raise InvalidNumber("bottom")
    return blocks_or_refused(table)


def power_of(number, many):
    """Return a number to the power of another one."""
    power = 1
    for _ in range(many):
        power = power * number
    return power


def all_held(table, bottom):
    """Return the ascending tuple of all tuples that count_held counts."""
    blocks = grid_blocks(table, bottom)
    if count_held(table, bottom) > MOST_TUPLES:
        raise Refused("size")
    found = [{}]
    for piece, fixed in zip(blocks.pieces, fixed_pieces(table, blocks)):
        own = held_by_piece(table, blocks, piece, fixed, bottom)
        found = [{**one, **other} for one in found for other in own]
    every = range(len(table.totals))
    return tuple(sorted([tuple([one.get(total, ZERO) for total in every]) for one in found]))


def held_by_piece(table, blocks, piece, fixed, bottom):
    """Return dicts from the totals of a piece to their errors, one for each way in which they can be held."""
    totals = [(total, sides_of_total(table, blocks, total)) for total in piece_totals(table, piece)]
    found = []
    for points in points_from_zero(len(piece) + int(fixed), bottom):
        # The last point of a fixed piece is the ground, which is the side that a total lacks.
        at = {number: point for number, point in zip(piece + (None,), points)}
        found.append({total: fraction_of(at[white] - at[black], bottom) for total, (white, black) in totals})
    return found


def points_from_zero(many, bottom):
    """Return all tuples of so many numbers below a bottom that have 0 among them."""
    found = []
    above = [()]
    for _ in range(many):
        fresh = [one + (0,) for one in above]
        found = fresh + [one + (point,) for one in found for point in range(bottom)]
        above = [one + (point,) for one in above for point in range(1, bottom)]
    return found


def clearing_day(table, errors):
    """Return some day with fewest lines that leads to errors of totals of 0, and stays at held ones."""
    blocks = blocks_or_refused(table)
    if not are_held(table, errors):
        raise Refused("lost")
    classes = classes_of(table)
    signed = signed_errors(table, blocks, errors)
    day = []
    for piece, fixed in zip(blocks.pieces, fixed_pieces(table, blocks)):
        meeting = ZERO if fixed else commonest([signed[number] for number in piece])
        for number in piece:
            if signed[number] != meeting:
                # Rounded to 0, a line takes its own amount off the error of its class.
                amount = timed((blocks.colours[number], 1), taken(signed[number], meeting))
                day.append((classes[number][0], amount, 0))
    return tuple(day)


def commonest(points):
    """Return the first one of those points that come most often."""
    counts = [points.count(point) for point in points]
    return points[counts.index(max(counts))]


def fewest_clearing(table, errors):
    """Return how many lines clearing_day has."""
    return len(clearing_day(table, errors))
