"""Papers of repairs: what shows that none is cheaper, or that there is none.

A denial of a number is (kinds, totals, more): a clash, and for each of its kinds, and then of its
totals, None or a denial of what is left of the number when this is taken out.
"""

from centsatonce.checks import is_tuple_of
from centsatonce.clashes import is_clash, is_part
from centsatonce.repairs import Clashes, is_repair, items_of, least_repair, mask_of, movable_items, part_of_mask
from centsatonce.repairs import price_of, prices_in


class RepairPaper:
    """The kinds and the totals of a repair, and a denial of one less than its price; any values."""

    def __init__(self, kinds, totals, denial):
        self.kinds = kinds
        self.totals = totals
        self.denial = denial


class StuckPaper:
    """The kinds and the totals of a clash all of which must stay; any values."""

    def __init__(self, kinds, totals):
        self.kinds = kinds
        self.totals = totals


def repair_paper(table, prices):
    """Return some right RepairPaper or StuckPaper."""
    repair = least_repair(table, prices)
    clashes = Clashes(table)
    if repair is None:
        # With all taken out that need not stay, some clash is left.
        movable = sum([mask for _, mask in movable_items(table, prices)])
        kinds, totals = part_of_mask(table, clashes.left_by(movable))
        return StuckPaper(kinds, totals)
    price = price_of(prices, repair)
    denial = denial_of(clashes, prices, (0, 0), price - 1) if price else None
    return RepairPaper(repair[0], repair[1], denial)


def denial_of(clashes, prices, masks, number):
    """Return a denial of a number, by the masks of what is taken out and of what must stay."""
    table = clashes.table
    gone, staying = masks
    clash = part_of_mask(table, clashes.left_by(gone))
    more = []
    for price, item in zip(prices_in(prices, clash), items_of(table, clash)):
        if is_closed(price, item, staying, number):
            more.append(None)
        else:
            more.append(denial_of(clashes, prices, (gone + item, staying), number - price))
        staying = staying | item
    return clash + (tuple(more),)


def is_closed(price, item, staying, number):
    """Return whether an item must stay, or its price is above a number."""
    return price is None or price > number or item & staying > 0


def is_repair_paper(table, prices, value):
    """Return whether any value is a right RepairPaper."""
    if not isinstance(value, RepairPaper) or not is_repair(table, (value.kinds, value.totals)):
        return False
    price = price_of(prices, (value.kinds, value.totals))
    if price is None:
        return False
    if price == 0:
        return value.denial is None
    return is_denial(table, prices, {}, (0, 0), price - 1, value.denial)


def is_denial(table, prices, known, masks, number, value):
    """Return whether any value is a denial of a number; known tells of parts whether they are clashes."""
    if not is_tuple_of(value, 3) or not is_part(table, value[:2]):
        return False
    clash, more = value[:2], value[2]
    if clash not in known:
        known[clash] = is_clash(table, clash)
    gone, staying = masks
    items = items_of(table, clash)
    if not known[clash] or mask_of(table, clash) & gone or not is_tuple_of(more, len(items)):
        return False
    for price, item, behind in zip(prices_in(prices, clash), items, more):
        if is_closed(price, item, staying, number):
            if behind is not None:
                return False
        elif not is_denial(table, prices, known, (gone + item, staying), number - price, behind):
            return False
        staying = staying | item
    return True


def is_stuck_paper(table, prices, value):
    """Return whether any value is a right StuckPaper."""
    if not isinstance(value, StuckPaper) or not is_clash(table, (value.kinds, value.totals)):
        return False
    return all([price is None for price in prices_in(prices, (value.kinds, value.totals))])
