"""Hindsight: days by lines all of which are known ahead, and what bars such days.

The signed sums of lines and 0 are nodes: 0 is node 0, that of a line the node one above its number.
"""

from centsatonce.court import sides_of_total
from centsatonce.days import choices
from centsatonce.errors import Refused
from centsatonce.limits import ring_below, shortest_from, tightest, turned_limits, way_to
from centsatonce.numbers import ceiling_of, floor_of
from centsatonce.reasons import sums_along
from centsatonce.tables import class_numbers


def nodes_before(table, lines):
    """Return for each line the node of the line of its class before it, 0 if there is none."""
    numbers = class_numbers(table)
    latest = {}
    found = []
    for at, (kind, _) in enumerate(lines):
        number = numbers[kind]
        found.append(latest.get(number, 0))
        if number is not None:
            latest[number] = at + 1
    return found


def line_colours(table, blocks, lines):
    """Return for each line the colour of its class, 1 if it has none."""
    numbers = class_numbers(table)
    return [1 if numbers[kind] is None else blocks.colours[numbers[kind]] for kind, _ in lines]


def both_ways(low, high, bounds, reasons):
    """Return the limits for a sum, of a high node less a low one, from a least bound to a greatest one."""
    return [(low, high, bounds[1], reasons[1]), (high, low, -bounds[0], reasons[0])]


def line_limits(table, blocks, lines):
    """Return the limits by which each line gets a whole next to its amount."""
    limits = []
    colours = line_colours(table, blocks, lines)
    for at, before in enumerate(nodes_before(table, lines)):
        wholes = choices(lines[at][1])
        ends = (before, at + 1) if colours[at] == 1 else (at + 1, before)
        reasons = (("line", at, -1), ("line", at, 1))
        limits.extend(both_ways(ends[0], ends[1], (wholes[0], wholes[-1]), reasons))
    return limits


def side_nodes(table, blocks, lines, total):
    """Return for each number of first lines the nodes of the black and of the white class of a total."""
    numbers = class_numbers(table)
    white, black = sides_of_total(table, blocks, total)
    low, high = 0, 0
    nodes = [(low, high)]
    for at, (kind, _) in enumerate(lines):
        number = numbers[kind]
        if number is not None and number == white:
            high = at + 1
        elif number is not None and number == black:
            low = at + 1
        nodes.append((low, high))
    return nodes


def kept_limits(table, lines, total, nodes):
    """Return the limits by which the error of a total stays between -1 and 1 behind each line."""
    limits = []
    for at, exact in enumerate(sums_along(table, lines, total)):
        if at > 0 and lines[at - 1][0] in table.totals[total]:
            reasons = (("kept", total, at, -1), ("kept", total, at, 1))
            bounds = (floor_of(exact), ceiling_of(exact))
            limits.extend(both_ways(nodes[at][0], nodes[at][1], bounds, reasons))
    return limits


def limits_of(table, blocks, lines, goal, kept):
    """Return the limits that hold for just the signed sums of asked days."""
    limits = line_limits(table, blocks, lines)
    for total, bounds in enumerate(goal):
        nodes = side_nodes(table, blocks, lines, total)
        if kept is True:
            limits.extend(kept_limits(table, lines, total, nodes))
        if bounds is not None:
            reasons = (("goal", total, -1), ("goal", total, 1))
            limits.extend(both_ways(nodes[-1][0], nodes[-1][1], bounds, reasons))
    return tightest(limits)


def asked_limits(table, blocks, lines, goal, kept):
    """Return the limits for asked days, or refuse a goal that no day meets."""
    limits = limits_of(table, blocks, lines, goal, kept)
    if ring_below(limits) is not None:
        raise Refused("goal")
    return limits


def day_by_sums(table, blocks, lines, sums):
    """Return the day with signed sums behind its lines."""
    day = []
    colours = line_colours(table, blocks, lines)
    for at, before in enumerate(nodes_before(table, lines)):
        change = sums[at] - sums[before - 1] if before else sums[at]
        day.append(lines[at] + (colours[at] * change,))
    return tuple(day)


def goal_day(table, blocks, lines, goal, kept=True):
    """Return some asked day, None if there is none."""
    limits = limits_of(table, blocks, lines, goal, kept)
    if ring_below(limits) is not None:
        return None
    return day_by_sums(table, blocks, lines, greatest_sums(limits, lines))


def goal_bar(table, blocks, lines, goal, kept=True):
    """Return some bar, None if there is none."""
    ring = ring_below(limits_of(table, blocks, lines, goal, kept))
    return None if ring is None else reasons_of(ring)


def reasons_of(limits):
    """Return the reasons of some limits."""
    return tuple([limit[3] for limit in limits])


def greatest_sums(limits, lines):
    """Return for each line the greatest signed sum that limits allow."""
    far = shortest_from(limits, 0)[0]
    return [far[at + 1] for at in range(len(lines))]


def end_range(table, blocks, lines, goal, total, kept=True):
    """Return the least and the greatest sum of wholes that a total has in asked days."""
    falling, rising = range_ways(table, blocks, lines, goal, total, kept)
    return (-length_of(falling), length_of(rising))


def range_papers(table, blocks, lines, goal, total, kept=True):
    """Return the reasons that bound the sum of a total in asked days from below, and from above."""
    falling, rising = range_ways(table, blocks, lines, goal, total, kept)
    return (reasons_of(falling), reasons_of(rising))


def range_ways(table, blocks, lines, goal, total, kept):
    """Return the limits of the shortest ways from the white to the black class of a total, and back."""
    limits = asked_limits(table, blocks, lines, goal, kept)
    low, high = side_nodes(table, blocks, lines, total)[-1]
    falling = way_to(shortest_from(limits, high)[1], high, low)
    return (falling, way_to(shortest_from(limits, low)[1], low, high))


def length_of(limits):
    """Return what the bounds of some limits come to."""
    return sum([limit[2] for limit in limits])


def signed_sums(table, blocks, day):
    """Return for each line the signed sum of its class behind it, for one of no class its whole."""
    lines = lines_of_day(day)
    colours = line_colours(table, blocks, lines)
    sums = []
    for at, before in enumerate(nodes_before(table, lines)):
        change = colours[at] * day[at][2]
        sums.append(sums[before - 1] + change if before else change)
    return tuple(sums)


def lines_of_day(day):
    """Return the lines of a day."""
    return tuple([line[:2] for line in day])


def sums_of_both(table, blocks, one, other):
    """Return for each line the pair of the signed sums of two days with the same lines."""
    return list(zip(signed_sums(table, blocks, one), signed_sums(table, blocks, other)))


def lesser_day(table, blocks, one, other):
    """Return the day whose signed sums are the lesser ones of two days with the same lines."""
    pairs = sums_of_both(table, blocks, one, other)
    return day_by_sums(table, blocks, lines_of_day(one), [min(pair) for pair in pairs])


def greater_day(table, blocks, one, other):
    """Return the day whose signed sums are the greater ones of two days with the same lines."""
    pairs = sums_of_both(table, blocks, one, other)
    return day_by_sums(table, blocks, lines_of_day(one), [max(pair) for pair in pairs])


def lowest_day(table, blocks, lines, goal, kept=True):
    """Return the asked day with the least signed sums."""
    limits = asked_limits(table, blocks, lines, goal, kept)
    far = shortest_from(turned_limits(limits), 0)[0]
    return day_by_sums(table, blocks, lines, [-far[at + 1] for at in range(len(lines))])


def highest_day(table, blocks, lines, goal, kept=True):
    """Return the asked day with the greatest signed sums."""
    limits = asked_limits(table, blocks, lines, goal, kept)
    return day_by_sums(table, blocks, lines, greatest_sums(limits, lines))
