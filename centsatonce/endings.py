"""Window days that come to a told end, calm ends, and how many window days there are."""

from centsatonce.days import choices, error_of_line
from centsatonce.errors import Refused
from centsatonce.numbers import ZERO, common_unit, in_units, least_of, taken, timed
from centsatonce.places import by_number, ends_of_piece, is_end, places_of, with_ground
from centsatonce.tables import class_numbers
from centsatonce.window import are_close, fixed_pieces, span_of


def day_to(table, blocks, lines, end):
    """Return some window day of lines whose errors have an end."""
    if not is_end(table, blocks, lines, end):
        raise Refused("end")
    numbers = class_numbers(table)
    fixed = fixed_pieces(table, blocks)
    points = list(end)
    back = []
    for kind, amount in reversed(lines):
        whole = choices(amount)[0]
        if numbers[kind] is not None:
            at = piece_around(blocks, numbers[kind])
            around = [number for number in blocks.pieces[at] if number != numbers[kind]]
            others = with_ground(points, around, fixed[at])
            colour = blocks.colours[numbers[kind]]
            whole, points[numbers[kind]] = step_back(others, points[numbers[kind]], colour, amount)
        back.append((kind, amount, whole))
    return tuple(reversed(back))


def piece_around(blocks, number):
    """Return the index of the piece of a class."""
    return [at for at, piece in enumerate(blocks.pieces) if number in piece][0]


def signed_change(colour, amount, whole):
    """Return how far a rounded line moves the signed error of its class."""
    return timed((colour, 1), error_of_line(amount, whole))


def step_back(others, point, colour, amount):
    """Return some whole of a line, and from where in the window it takes its class to a point."""
    found = []
    for whole in choices(amount):
        before = taken(point, signed_change(colour, amount, whole))
        if are_close(others + [before]):
            found.append((whole, before))
    return found[0]


def calm_end(table, blocks, lines):
    """Return some end with the least span in each piece."""
    places = places_of(table, blocks, lines)
    told = {}
    for piece, fixed in zip(blocks.pieces, fixed_pieces(table, blocks)):
        calm = calmest(ends_of_piece(places, piece, fixed), fixed)
        for number, point in zip(piece, calm):
            told[number] = point
    return by_number(told)


def calmest(ends, fixed):
    """Return the one of some ends of a piece with the least span."""
    spans = [span_of(end + (ZERO,) if fixed else end) for end in ends]
    return ends[spans.index(least_of(spans))]


def count_window_days(table, blocks, lines):
    """Return how many window days have these lines."""
    numbers = class_numbers(table)
    many = 1
    for kind, amount in lines:
        if numbers[kind] is None:
            many = many * len(choices(amount))
    for piece, fixed in zip(blocks.pieces, fixed_pieces(table, blocks)):
        own = [(numbers[kind], amount) for kind, amount in lines if numbers[kind] in piece]
        many = many * count_in_piece(blocks.colours, piece, fixed, own)
    return many


def count_in_piece(colours, piece, fixed, lines):
    """Return how many ways there are to round lines of classes of a piece within its window.

    A point is told by how many units it is: so nothing is brought to lowest terms on the way.
    """
    unit = common_unit([amount for _, amount in lines])
    ways = {tuple([0 for _ in piece]): 1}
    for number, amount in lines:
        changes = [signed_change(colours[number], amount, whole) for whole in choices(amount)]
        ways = ways_behind(ways, unit, fixed, piece.index(number), [in_units(change, unit) for change in changes])
    return sum(ways.values())


def ways_behind(ways, unit, fixed, at, changes):
    """Return a dict from the points behind one more line to the number of ways there."""
    behind = {}
    for points, many in ways.items():
        for change in changes:
            moved = points[:at] + (points[at] + change,) + points[at + 1:]
            bounds = moved + (0,) if fixed else moved
            if max(bounds) - min(bounds) < unit:
                key = moved if fixed else settled(moved, unit)
                behind[key] = behind.get(key, 0) + many
    return behind


def settled(points, unit):
    """Return the points of a piece that is not fixed, less so many wholes that the first one is a place."""
    shift = points[0] // unit * unit
    return tuple([point - shift for point in points])
