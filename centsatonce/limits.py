"""Limits of differences: shortest ways among nodes, and rings that come to less than 0.

A limit (start, end, bound, reason) tells that what is at its end is at most by the bound above
what is at its start. So a way bounds a difference by the sum of its bounds, and along a ring
whose bounds come to less than 0 nothing can be.
"""


def tightest(limits):
    """Return of all limits with the same start and end the one with the least bound."""
    best = {}
    for limit in limits:
        key = (limit[0], limit[1])
        if key not in best or limit[2] < best[key][2]:
            best[key] = limit
    return list(best.values())


def turned_limits(limits):
    """Return the limits with start and end exchanged."""
    return [(end, start, bound, reason) for start, end, bound, reason in limits]


def ring_below(limits):
    """Return the limits of some ring that comes to less than 0, None if there is none."""
    for limit in limits:
        if limit[0] == limit[1] and limit[2] < 0:
            return [limit]
    return shortest_from(limits, 0)[2]


def shortest_from(limits, start):
    """Return dicts from all nodes to their distances from one and to the limits before them, and a ring below 0.

    The ring is None if there is none; otherwise the dicts tell nothing.
    """
    order = [limit for limit in limits if limit[0] != limit[1]]
    far, before = {start: 0}, {}
    changed = True
    while changed:
        changed = shorten(order, far, before)
        ring = ring_among(before)
        if ring is not None:
            return (far, before, ring)
        # To and fro: limits run mostly from a line to the next one, or back.
        order = list(reversed(order))
    return (far, before, None)


def shorten(limits, far, before):
    """Shorten the distances by all limits in their sequence, and return whether some were."""
    changed = False
    for limit in limits:
        start, end, bound, _ = limit
        if start in far and (end not in far or far[start] + bound < far[end]):
            far[end] = far[start] + bound
            before[end] = limit
            changed = True
    return changed


def ring_among(before):
    """Return the limits of a ring on which each node is behind its limit, None if there is none."""
    seen = {}
    for first in before:
        node = first
        while node in before and node not in seen:
            seen[node] = first
            node = before[node][0]
        if node in before and seen[node] == first:
            return ring_through(before, node)
    return None


def ring_through(before, node):
    """Return the limits of the ring on which a node is."""
    ring = [before[node]]
    while ring[-1][0] != node:
        ring.append(before[ring[-1][0]])
    return ring


def way_to(before, start, end):
    """Return the limits along the shortest way from the start to a node."""
    way = []
    while end != start:
        way.append(before[end])
        end = before[end][0]
    return way
