"""Ways along ties: triples (one, other, total), the lesser end first."""

from centsatonce.checks import are_numbers_below, are_unlike, is_an_integer, is_tuple_of


def ends_beyond(tied, end):
    """Return the pairs of another end and a total by which it is tied to an end."""
    found = []
    for one, other, total in tied:
        if end in (one, other):
            found.append((one + other - end, total))
    return found


def ways_from(tied, start, last=None):
    """Return a dict from each end that can be reached to a shortest way there from a start.

    No way leads on behind the end called last, if it does not begin there.
    """
    ways = {start: ((start,), ())}
    edge = [start]
    while edge:
        ahead = []
        for end in edge:
            posts, totals = ways[end]
            for beyond, total in ends_beyond(tied, end):
                if beyond not in ways:
                    ways[beyond] = (posts + (beyond,), totals + (total,))
                    ahead.append(beyond)
        edge = [end for end in ahead if end != last]
    return ways


def ring_between(one, other, total):
    """Return the posts and the totals of the ring of two ways of one ways_from, and a tie of their ends."""
    # Such ways go along together at first, and do not meet again behind that.
    alike = 0
    while alike < min(len(one[0]), len(other[0])) and one[0][alike] == other[0][alike]:
        alike += 1
    back = tuple(reversed(other[0][alike:]))
    back_totals = tuple(reversed(other[1][alike - 1:]))
    return (one[0][alike - 1:] + back, one[1][alike - 1:] + (total,) + back_totals)


def is_way(tied, many, posts, totals):
    """Return whether any values are unlike ends of so many, and totals that tie them in a row."""
    if not are_numbers_below(posts, many) or not posts or not are_unlike(posts):
        return False
    if not is_tuple_of(totals, len(posts) - 1):
        return False
    return are_tied(tied, list(zip(posts, posts[1:])), totals)


def are_tied(tied, pairs, totals):
    """Return whether each of some pairs of ends is tied by the item at its place of any tuple."""
    if not all([is_an_integer(total) for total in totals]):
        return False
    return all([(min(pair), max(pair), total) in tied for pair, total in zip(pairs, totals)])
