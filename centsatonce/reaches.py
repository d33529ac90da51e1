"""Posts, the classes of a table and the ground, and how far apart they are."""

from centsatonce.tables import classes_of, totals_by_classes
from centsatonce.ways import is_way, ways_from


def ground_of(table):
    """Return the number by which the ground is told: that of the classes."""
    return len(classes_of(table))


def post_ties(table):
    """Return the ties of two classes, and of a class and the ground."""
    ground = ground_of(table)
    tied = []
    for at, total in enumerate(totals_by_classes(table)):
        ends = total + (ground,) if len(total) == 1 else total
        if len(ends) == 2:
            tied.append(ends + (at,))
    return tuple(tied)


def post_way(table, one, other):
    """Return the posts and the totals of some shortest way, None if there is none."""
    return ways_from(post_ties(table), one, ground_of(table)).get(other)


def distance(table, one, other):
    """Return how many totals a shortest way has, None if there is none."""
    way = post_way(table, one, other)
    return None if way is None else len(way[1])


def is_post_way(table, posts, totals):
    """Return whether any values are the posts and the totals of a way."""
    ground = ground_of(table)
    if not is_way(post_ties(table), ground + 1, posts, totals):
        return False
    return ground not in posts[1:-1]


def post_pairs(table):
    """Return the lot of the triples (distance, one, other) of all pairs of posts with a way between them."""
    tied = post_ties(table)
    ground = ground_of(table)
    pairs = []
    for one in range(ground):
        for other, way in ways_from(tied, one, ground).items():
            if one < other:
                pairs.append((len(way[1]), one, other))
    return tuple(sorted(pairs))


def farthest(table):
    """Return the greatest distance of two posts."""
    return max([apart for apart, _, _ in post_pairs(table)], default=0)


def lines_that_tell(table):
    """Return the least number of lines of which 2 to the power is at least the farthest."""
    return lines_for(farthest(table))


def lines_for(reach):
    """Return the least number of lines of which 2 to the power is at least a reach."""
    lines = 0
    power = 1
    while power < reach:
        power = 2 * power
        lines += 1
    return lines
