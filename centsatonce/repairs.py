"""Repairs: what is to be taken out of a table, such that all its totals can be kept.

A part is told by a mask, too: an integer with a bit for each kind, and then for each total.
"""

from centsatonce.clashes import clash_within, is_fit, is_part, whole_part
from centsatonce.errors import Refused
from centsatonce.tables import totals_by_classes

MOST_PRICES = 12


def rest_of(table, part):
    """Return the part of all that is in none of a part."""
    kinds, totals = whole_part(table)
    left = tuple([kind for kind in kinds if kind not in part[0]])
    return (left, tuple([total for total in totals if total not in part[1]]))


def is_repair(table, value):
    """Return whether any value is a repair."""
    return is_part(table, value) and is_fit(table, rest_of(table, value))


def prices_in(prices, part):
    """Return the prices of all that is in a part: of its kinds, and then of its totals."""
    return [prices[0][kind] for kind in part[0]] + [prices[1][total] for total in part[1]]


def price_of(prices, part):
    """Return the sum of the prices of all that is in a part, None if something in it must stay."""
    own = prices_in(prices, part)
    return None if None in own else sum(own)


def mask_of(table, part):
    """Return the mask of a part."""
    many = len(table.kinds)
    return sum([1 << kind for kind in part[0]]) + sum([1 << (many + total) for total in part[1]])


def part_of_mask(table, mask):
    """Return the part of a mask."""
    many = len(table.kinds)
    kinds = [kind for kind in range(many) if mask >> kind & 1]
    return (tuple(kinds), tuple([total for total in range(len(table.totals)) if mask >> (many + total) & 1]))


def items_of(table, part):
    """Return the masks of all kinds of a part, and then of all its totals, each alone."""
    kinds = [mask_of(table, ((kind,), ())) for kind in part[0]]
    return kinds + [mask_of(table, ((), (total,))) for total in part[1]]


def movable_items(table, prices):
    """Return the pairs of a price and a mask of all that need not stay, or refuse too many."""
    whole = whole_part(table)
    pairs = list(zip(prices_in(prices, whole), items_of(table, whole)))
    movable = [pair for pair in pairs if pair[0] is not None]
    if len(movable) > MOST_PRICES:
        raise Refused("size")
    return movable


def all_sums(movable):
    """Return for each lot of some pairs of a price and a mask the pair of their sums."""
    sums = [(0, 0)]
    for price, mask in movable:
        sums = sums + [(one + price, other + mask) for one, other in sums]
    return sums


class Clashes:
    """The clashes of a table that were found so far, as masks; it changes."""

    def __init__(self, table):
        self.table = table
        self.masks = []

    def left_by(self, mask):
        """Return the mask of some clash that has nothing of a mask, None if there is none."""
        for clash in self.masks:
            if clash & mask == 0:
                return clash
        found = clash_within(self.table, rest_of(self.table, part_of_mask(self.table, mask)))
        if found is None:
            return None
        self.masks.append(mask_of(self.table, found))
        return self.masks[-1]


def least_repair(table, prices):
    """Return some repair with the least price in which nothing must stay, None if there is none."""
    movable = movable_items(table, prices)
    clashes = Clashes(table)
    for _, mask in sorted(all_sums(movable)):
        if clashes.left_by(mask) is None:
            return part_of_mask(table, mask)
    return None


def fewest_totals(table):
    """Return some lot of totals, as few as can be, which alone are a repair."""
    prices = (tuple([None for _ in table.kinds]), tuple([1 for _ in table.totals]))
    return least_repair(table, prices)[1]


def fewest_kinds(table):
    """Return some lot of kinds, as few as can be, which alone are a repair."""
    prices = (tuple([1 for _ in table.kinds]), tuple([None for _ in table.totals]))
    return least_repair(table, prices)[0]


def coloured_alike(table, colours):
    """Return the lot of all totals that have just two classes, both with the same colour."""
    found = []
    for total, classes in enumerate(totals_by_classes(table)):
        if len(classes) == 2 and colours[classes[0]] == colours[classes[1]]:
            found.append(total)
    return tuple(found)
