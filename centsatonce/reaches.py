"""Posts, the classes of a table and the ground, and how far apart they are."""

from centsatonce.tables import classes_of, totals_by_classes
from centsatonce.ways import is_way, ways_from


def ground_of(table):
    """Return the number by which the ground is told: that of the classes."""
    return len(classes_of(table))


def post_ties(table):
    """Return the ties of two classes, and of a class and the ground."""
    ground = ground_of(table)
    tied = []
    for at, total in enumerate(totals_by_classes(table)):
        ends = total + (ground,) if len(total) == 1 else total
        if len(ends) == 2:
            tied.append(ends + (at,))
    return tuple(tied)


def post_ways(table, start):
    """Return a dict from each post that a way leads to from a start to some shortest way."""
    return ways_from(post_ties(table), start, ground_of(table))


def post_way(table, one, other):
    """Return the posts and the totals of some shortest way, None if there is none."""
    return post_ways(table, one).get(other)


def distance(table, one, other):
    """Return how many totals a shortest way has, None if there is none."""
    way = post_way(table, one, other)
    return None if way is None else len(way[1])


def is_post_way(table, posts, totals):
    """Return whether any values are the posts and the totals of a way."""
    ground = ground_of(table)
    if not is_way(post_ties(table), ground + 1, posts, totals):
        return False
    return ground not in posts[1:-1]


def farthest(table):
    """Return the greatest distance of two posts."""
    greatest = 0
    for start in range(ground_of(table) + 1):
        ways = post_ways(table, start)
        greatest = max(greatest, max([len(totals) for _, totals in ways.values()]))
    return greatest


def lines_that_tell(table):
    """Return the least number of lines of which 2 to the power is at least the farthest."""
    reach = farthest(table)
    lines = 0
    power = 1
    while power < reach:
        power = 2 * power
        lines += 1
    return lines
