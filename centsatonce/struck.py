"""Strike attacks: trees of lines and strikes that beat every clerk.

A tree is ("off", total), ("line", kind, fraction, up, down) or ("strike", back, behind).
"""

from centsatonce.attacks import is_told_end, is_tree_line
from centsatonce.checks import begins_with, is_number_below
from centsatonce.days import error_of_line
from centsatonce.errors import Refused
from centsatonce.numbers import is_small_sum
from centsatonce.tables import classes_of, totals_with

HALF = (1, 2)
MOST_DEEDS = 60
MOST_ON_WAY = 20


def strike_attack(table, reach):
    """Return some strike attack of halves, with few lines and strikes."""
    classes = classes_of(table)
    if not classes:
        raise Refused("class")
    kind = classes[0][0]
    off = ("off", totals_with(table, kind)[0])
    high, low = [ways_behind_first(kind, off, reach, is_up) for is_up in (True, False)]
    return ("line", kind, HALF, high, low)


def ways_behind_first(kind, off, reach, is_up):
    """Return the tree behind a first line that is rounded up or down, by its kind and the end of all ways."""
    # Of first, other, first, or of first, other, other, two that are alike are left to stand alone.
    back_to_first = ("strike", 1, off)
    if reach > 2:
        others = ("strike", 2, off)
    else:
        # Just the last two can be struck: a fourth line makes it first, other, first once more.
        others = line_like_first(kind, is_up, ("strike", 1, back_to_first), off)
    return line_like_first(kind, is_up, off, line_like_first(kind, is_up, back_to_first, others))


def line_like_first(kind, is_up, alike, unlike):
    """Return a tree with a line, by the trees for when it is rounded like the first line, and unlike it."""
    return ("line", kind, HALF, alike, unlike) if is_up else ("line", kind, HALF, unlike, alike)


def is_strike_attack(table, reach, value):
    """Return whether any value is a strike attack with a reach."""
    waiting = [((), value, 0)]
    many = 0
    while waiting:
        standing, tree, above = waiting.pop()
        if is_told_end(table, tree):
            if is_small_sum([change for kind, change in standing if kind in table.totals[tree[1]]]):
                return False
            continue
        many += 1
        if many > MOST_DEEDS or above == MOST_ON_WAY:
            return False
        if is_tree_line(table, tree):
            for whole in (0, 1):
                change = error_of_line(tree[2], whole)
                waiting.append((standing + ((tree[1], change),), tree[4 - whole], above + 1))
        elif is_tree_strike(reach, len(standing), tree):
            at = len(standing) - 1 - tree[1]
            waiting.append((standing[:at] + standing[at + 1:], tree[2], above + 1))
        else:
            return False
    return True


def is_tree_strike(reach, many, value):
    """Return whether any value begins like a tree with a strike, where so many lines stand."""
    return begins_with(value, "strike", 3) and is_number_below(value[1], min(reach, many))


def deeds_on_ways(tree):
    """Return the greatest number of lines on a way, and that of strikes."""
    if tree[0] == "off":
        return (0, 0)
    if tree[0] == "strike":
        lines, strikes = deeds_on_ways(tree[2])
        return (lines, strikes + 1)
    high, low = deeds_on_ways(tree[3]), deeds_on_ways(tree[4])
    return (max(high[0], low[0]) + 1, max(high[1], low[1]))
