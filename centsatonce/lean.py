"""Lean repairs: those in which nothing can be spared."""

from centsatonce.repairs import Clashes, all_sums, movable_items, part_of_mask


def lean_repairs(table, prices):
    """Return the lot of all lean repairs in which nothing must stay."""
    movable = movable_items(table, prices)
    clashes = Clashes(table)
    lean = []
    # What has fewer items comes first: so a repair is lean if none that is found is within it.
    for _, mask in sorted(all_sums([(1, item) for _, item in movable])):
        if not has_any(lean, mask) and clashes.left_by(mask) is None:
            lean.append(mask)
    return tuple(sorted([part_of_mask(table, mask) for mask in lean]))


def has_any(masks, whole):
    """Return whether all of some one of some masks is in another mask."""
    for mask in masks:
        if mask & whole == mask:
            return True
    return False
