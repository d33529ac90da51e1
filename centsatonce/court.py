"""The court: blocks, which show that all totals can be kept, or a knot."""

from centsatonce.checks import is_lot_below, is_sign, is_tuple_of
from centsatonce.knots import is_knot, odd_ring, three_in, three_totals
from centsatonce.pieces import pieces_of
from centsatonce.tables import classes_of, totals_by_classes
from centsatonce.ties import ties
from centsatonce.ways import ways_from

WHITE = 1
BLACK = -1


class Blocks:
    """A colour for each class, 1 or -1, and the pieces; any values."""

    def __init__(self, colours, pieces):
        self.colours = colours
        self.pieces = pieces


def is_blocks(table, value):
    """Return whether any value is right blocks."""
    if not isinstance(value, Blocks):
        return False
    return are_colours(table, value.colours) and are_pieces(table, value.pieces)


def are_colours(table, value):
    """Return whether any value has a colour for each class, such that each total has one of each at most."""
    if not is_tuple_of(value, len(classes_of(table))) or not all([is_sign(colour) for colour in value]):
        return False
    for total in totals_by_classes(table):
        if len(total) > 2 or (len(total) == 2 and value[total[0]] == value[total[1]]):
            return False
    return True


def are_pieces(table, value):
    """Return whether any value is the tuple of all pieces."""
    many = len(classes_of(table))
    # No bool and no float is taken for the number that it equals.
    if not isinstance(value, tuple) or not all([is_lot_below(piece, many) for piece in value]):
        return False
    return value == pieces_of(table)


def is_good(table):
    """Return whether a table has right blocks."""
    return not three_totals(table) and odd_ring(table) is None


def sides_of_total(table, blocks, total):
    """Return the white and the black class of a total, None for one that it has not."""
    white, black = None, None
    for number in totals_by_classes(table)[total]:
        if blocks.colours[number] == WHITE:
            white = number
        else:
            black = number
    return (white, black)


def repainted(blocks, at):
    """Return the blocks in which all classes of one piece have the other colour."""
    piece = blocks.pieces[at]
    colours = [-colour if number in piece else colour for number, colour in enumerate(blocks.colours)]
    return Blocks(tuple(colours), blocks.pieces)


def count_blocks(table):
    """Return how many right blocks of unlike colours there are."""
    if not is_good(table):
        return 0
    many = 1
    for _ in pieces_of(table):
        many = 2 * many
    return many


def court(table):
    """Return the right blocks in which the least class of each piece is white, or some right knot."""
    wide = three_totals(table)
    if wide:
        return three_in(table, wide[0])
    ring = odd_ring(table)
    return blocks_of(table) if ring is None else ring


def blocks_of(table):
    """Return the blocks of a good table in which the least class of each piece is white."""
    pieces = pieces_of(table)
    tied = ties(table)
    colours = [WHITE for _ in classes_of(table)]
    for piece in pieces:
        for number, way in ways_from(tied, piece[0]).items():
            if len(way[1]) & 1:
                colours[number] = BLACK
    return Blocks(tuple(colours), pieces)


def is_verdict(table, value):
    """Return whether any value is right blocks or a right knot."""
    return is_blocks(table, value) or is_knot(table, value)
