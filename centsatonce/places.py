"""Ends: the signed errors to which lines can lead, inside the window."""

from centsatonce.checks import is_tuple_of
from centsatonce.days import no_errors
from centsatonce.errors import Refused
from centsatonce.numbers import ONE, ZERO, added, floor_of, is_fraction, is_less, part_of, taken
from centsatonce.window import are_close, fixed_pieces, signed_errors

MOST_ENDS = 500


def places_of(table, blocks, lines):
    """Return the places of all classes behind lines."""
    errors = list(no_errors(table))
    for kind, amount in lines:
        # Rounded to 0 or to what it is: whole errors do not change a place.
        errors[kind] = part_of(taken(errors[kind], amount))
    return tuple([part_of(one) for one in signed_errors(table, blocks, tuple(errors))])


def with_ground(places, piece, fixed):
    """Return the places of a piece, the one to which an end is fixed first: 0 or that of its first class."""
    own = [places[number] for number in piece]
    return [ZERO] + own if fixed else own


def is_end(table, blocks, lines, value):
    """Return whether any value is an end of lines."""
    places = places_of(table, blocks, lines)
    if not is_tuple_of(value, len(places)) or not all([is_fraction(one) for one in value]):
        return False
    if tuple([part_of(one) for one in value]) != places:
        return False
    for piece, fixed in zip(blocks.pieces, fixed_pieces(table, blocks)):
        points = with_ground(value, piece, fixed)
        if points[0] != with_ground(places, piece, fixed)[0]:
            return False
        if not are_close(points):
            return False
    return True


def count_ends(table, blocks, lines):
    """Return how many ends lines have."""
    places = places_of(table, blocks, lines)
    many = 1
    for piece, fixed in zip(blocks.pieces, fixed_pieces(table, blocks)):
        many = many * len(set(with_ground(places, piece, fixed)))
    return many


def ends_of_piece(places, piece, fixed):
    """Return the ends of a piece: for each place in it, the one in which this is lowest."""
    own = with_ground(places, piece, fixed)
    ends = []
    for lowest in sorted(set(own)):
        raised = [added(place, ONE) if is_less(place, lowest) else place for place in own]
        shift = taken(own[0], raised[0])
        end = [added(point, shift) for point in raised]
        ends.append(tuple(end[1:] if fixed else end))
    return ends


def all_ends(table, blocks, lines):
    """Return the ascending tuple of all ends."""
    if count_ends(table, blocks, lines) > MOST_ENDS:
        raise Refused("size")
    places = places_of(table, blocks, lines)
    found = [{}]
    for piece, fixed in zip(blocks.pieces, fixed_pieces(table, blocks)):
        longer = []
        for end in ends_of_piece(places, piece, fixed):
            told = {number: point for number, point in zip(piece, end)}
            longer.extend([{**one, **told} for one in found])
        found = longer
    return tuple(sorted([by_number(one) for one in found]))


def by_number(told):
    """Return the points of all classes, told by the numbers of these, in their sequence."""
    return tuple([told[number] for number in range(len(told))])


def end_of(table, blocks, errors):
    """Return the end of errors that are inside."""
    end = list(signed_errors(table, blocks, errors))
    for piece, fixed in zip(blocks.pieces, fixed_pieces(table, blocks)):
        if not fixed:
            whole = floor_of(end[piece[0]])
            for number in piece:
                end[number] = taken(end[number], (whole, 1))
    return tuple(end)
