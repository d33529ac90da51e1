"""Clashes: least parts of a table by which its totals cannot always be kept.

A part is a pair (kinds, totals) of lots of numbers of its kinds and its totals.
"""

from itertools import combinations

from centsatonce.checks import is_lot_below, is_tuple_of
from centsatonce.court import court, is_good
from centsatonce.errors import Refused
from centsatonce.knots import Knot, parted
from centsatonce.pieces import piece_from
from centsatonce.tables import classes_of, without_kinds, without_totals

MOST_TO_SEARCH = 8


def part_table(table, kinds, totals):
    """Return the table that has just some kinds and some totals, numbered anew."""
    spare = [at for at in range(len(table.totals)) if at not in totals]
    others = [kind for kind in range(len(table.kinds)) if kind not in kinds]
    return without_kinds(without_totals(table, tuple(spare)), tuple(others))


def whole_part(table):
    """Return the part of all kinds and all totals."""
    return (tuple(range(len(table.kinds))), tuple(range(len(table.totals))))


def is_part(table, value):
    """Return whether any value is a part."""
    if not is_tuple_of(value, 2):
        return False
    return is_lot_below(value[0], len(table.kinds)) and is_lot_below(value[1], len(table.totals))


def is_fit(table, part):
    """Return whether a part has no kinds or its table is good."""
    kinds, totals = part
    return not kinds or is_good(part_table(table, kinds, totals))


def parts_below(part):
    """Return the parts with one kind or one total less."""
    kinds, totals = part
    fewer = [(kinds[:at] + kinds[at + 1:], totals) for at in range(len(kinds))]
    return fewer + [(kinds, totals[:at] + totals[at + 1:]) for at in range(len(totals))]


def is_clash(table, value):
    """Return whether any value is a clash."""
    if not is_part(table, value) or is_fit(table, value):
        return False
    return all([is_fit(table, part) for part in parts_below(value)])


def some_clash(table):
    """Return some clash, None if there is none."""
    return clash_within(table, whole_part(table))


def clash_within(table, part):
    """Return some clash all of which is in a part, None if there is none."""
    kinds, totals = part
    if not kinds:
        return None
    own = part_table(table, kinds, totals)
    knot = court(own)
    if not isinstance(knot, Knot):
        return None
    classes = classes_of(own)
    if knot.word == "ring":
        numbers, clashing = knot.at, knot.totals
    else:
        numbers, clashing = three_parted(own, knot), knot.totals + (knot.at,)
    return (named_by(kinds, [classes[number][0] for number in numbers]), named_by(totals, clashing))


def three_parted(table, knot):
    """Return three classes of a total, no two of which lie in the same ones of two others."""
    lots = [lot for lot in parted(table, knot.at, knot.totals[0], knot.totals[1]) if lot]
    return [lot[0] for lot in lots[:3]]


def named_by(numbers, places):
    """Return the lot of the numbers at some places."""
    return tuple(sorted([numbers[place] for place in places]))


def all_clashes(table):
    """Return the lot of all clashes."""
    many = len(table.kinds)
    if max(many, len(table.totals)) > MOST_TO_SEARCH:
        raise Refused("size")
    found = []
    for size in range(3, many + 1, 2):
        found.extend(clashes_of_size(table, size))
    return tuple(sorted(found))


def clashes_of_size(table, size):
    """Return the clashes with so many kinds, and as many totals."""
    found = []
    for kinds in combinations(range(len(table.kinds)), size):
        shares = [tuple([kind for kind in total if kind in kinds]) for total in table.totals]
        for totals in combinations(range(len(shares)), size):
            if are_clashing(kinds, [shares[at] for at in totals]):
                found.append((kinds, totals))
    return found


def are_clashing(kinds, shares):
    """Return whether as many totals as kinds, by what they have of these, make a clash."""
    if are_on_ring(kinds, shares):
        return True
    return len(kinds) == 3 and any([are_three(kinds, shares, at) for at in range(3)])


def are_three(kinds, shares, at):
    """Return whether one of three totals has three kinds, no two of which lie in the same ones of the others."""
    others = shares[:at] + shares[at + 1:]
    patterns = [tuple([kind in share for share in others]) for kind in kinds]
    return shares[at] == kinds and len(set(patterns)) == len(kinds)


def are_on_ring(kinds, shares):
    """Return whether each total has two of some kinds, each kind lies in two totals, and all are on one ring."""
    if not all([len(share) == 2 for share in shares]):
        return False
    if not all([len([share for share in shares if kind in share]) == 2 for kind in kinds]):
        return False
    return piece_from(shares, kinds[0]) == kinds


def harmless(table):
    """Return the part of all kinds and all totals that are in no clash."""
    clashes = all_clashes(table)
    harmed = {kind: True for kinds, _ in clashes for kind in kinds}
    spoilt = {total: True for _, totals in clashes for total in totals}
    kinds, totals = whole_part(table)
    return (tuple([kind for kind in kinds if kind not in harmed]), tuple([at for at in totals if at not in spoilt]))
