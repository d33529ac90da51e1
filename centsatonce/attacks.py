"""Attacks: trees of lines that beat every clerk.

A tree is ("off", total) or ("line", kind, fraction, up, down).
"""

from centsatonce.checks import begins_with, is_number_below
from centsatonce.days import errors_behind, no_errors, totals_by
from centsatonce.numbers import ONE, is_fraction, is_small, is_small_sum, taken

MOST_TREE_LINES = 150
MOST_HEIGHT = 40


def is_attack_from(table, errors, value):
    """Return whether any value is an attack from errors."""
    waiting = [(errors, value, 0)]
    many = 0
    while waiting:
        now, tree, above = waiting.pop()
        if is_told_end(table, tree):
            if is_small_sum([now[kind] for kind in table.totals[tree[1]]]):
                return False
        elif is_tree_line(table, tree) and many < MOST_TREE_LINES and above < MOST_HEIGHT:
            many += 1
            waiting.append((errors_behind(now, tree[1], tree[2], 0), tree[4], above + 1))
            waiting.append((errors_behind(now, tree[1], tree[2], 1), tree[3], above + 1))
        else:
            return False
    return True


def is_told_end(table, value):
    """Return whether any value is a tree that only tells a total."""
    return begins_with(value, "off", 2) and is_number_below(value[1], len(table.totals))


def is_tree_line(table, value):
    """Return whether any value begins like a tree with a line, whatever its trees are."""
    if not begins_with(value, "line", 5) or not is_number_below(value[1], len(table.kinds)):
        return False
    return is_fraction(value[2]) and 0 < value[2][0] < value[2][1]


def is_attack(table, value):
    """Return whether any value is an attack from no errors."""
    return is_attack_from(table, no_errors(table), value)


def height_of(attack):
    """Return the number of lines on the longest way."""
    if attack[0] == "off":
        return 0
    return 1 + max(height_of(attack[3]), height_of(attack[4]))


def count_lines(attack):
    """Return the number of all lines."""
    if attack[0] == "off":
        return 0
    return 1 + count_lines(attack[3]) + count_lines(attack[4])


def way_down(attack, ups):
    """Return the rounded lines on one way, and the total at its end."""
    day = []
    while attack[0] == "line":
        up = len(day) < len(ups) and ups[len(day)] == 1
        day.append((attack[1], attack[2], int(up)))
        attack = attack[3] if up else attack[4]
    return (tuple(day), attack[1])


def attack_day(attack, ups):
    """Return the day on one way: up where ups has 1, otherwise down."""
    return way_down(attack, ups)[0]


def beaten_total(attack, ups):
    """Return the total at the end of one way."""
    return way_down(attack, ups)[1]


def mirrored(attack):
    """Return the tree with each fraction taken from 1, and up and down exchanged."""
    if attack[0] == "off":
        return attack
    return ("line", attack[1], taken(ONE, attack[2]), mirrored(attack[4]), mirrored(attack[3]))


def shortened(table, errors, attack):
    """Return the attack in which each way ends as soon as totals are off, with the least of them."""
    for total, error in enumerate(totals_by(table, errors)):
        if not is_small(error):
            return ("off", total)
    word, kind, fraction, up, down = attack
    high = shortened(table, errors_behind(errors, kind, fraction, 1), up)
    low = shortened(table, errors_behind(errors, kind, fraction, 0), down)
    return (word, kind, fraction, high, low)
