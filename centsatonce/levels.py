"""Levels: all that is derived, by the depth of the derivations."""

from centsatonce.reckonings import clashes, difference_of, opposite_reckoning
from centsatonce.reckonings import total_reckonings


def levels_of(table):
    """Return the levels up to the first torn one, or up to the one that the next one equals."""
    return grown(table)[0]


def grown(table):
    """Return the levels, and a dict from each of their reckonings to what it comes of.

    This is a step of a total, or ("less", class, one, other) with two reckonings themselves.
    """
    sources = first_sources(table)
    levels = [tuple(sorted(list(sources)))]
    while torn_pair(levels[-1]) is None:
        many = len(sources)
        for one, other, number in agreeing_pairs(levels[-1]):
            sources.setdefault(difference_of(one, other), ("less", number, one, other))
        if len(sources) == many:
            break
        levels.append(tuple(sorted(list(sources))))
    return (tuple(levels), sources)


def first_sources(table):
    """Return a dict from the reckonings of totals and their opposites to steps."""
    sources = {}
    for total, reckoning in enumerate(total_reckonings(table)):
        sources.setdefault(reckoning, ("total", total, 1))
        sources.setdefault(opposite_reckoning(reckoning), ("total", total, -1))
    return sources


def by_entries(level):
    """Return a dict from each class and entry to the reckonings of a level that have it there."""
    found = {}
    for reckoning in level:
        for number, entry in enumerate(reckoning):
            found.setdefault((number, entry), []).append(reckoning)
    return found


def agreeing_pairs(level):
    """Return all (one, other, class) of a level such that two agree at a class, by 1 or by -1."""
    pairs = []
    for place, some in by_entries(level).items():
        number, entry = place
        if entry != 0:
            pairs.extend([(one, other, number) for one in some for other in some])
    return pairs


def torn_pair(level):
    """Return some (one, other, class) of a level that agree at the class and clash at another one."""
    for one, other, number in agreeing_pairs(level):
        if clashes(one, other):
            return (one, other, number)
    return None


def least_beyond(table):
    """Return some derivation of least depth of a reckoning that is beyond, None if there is none."""
    levels, sources = grown(table)
    torn = torn_pair(levels[-1])
    return None if torn is None else difference_from(sources, torn)


def difference_from(sources, pair):
    """Return a derivation of the difference of a pair (one, other, class) that agree at the class."""
    one, other, number = pair
    steps = []
    places = {}
    add_steps(sources, one, steps, places)
    add_steps(sources, other, steps, places)
    steps.append(("less", number, places[one], places[other]))
    return tuple(steps)


def derivation_from(sources, reckoning):
    """Return a derivation of a reckoning of some level."""
    steps = []
    add_steps(sources, reckoning, steps, {})
    return tuple(steps)


def add_steps(sources, reckoning, steps, places):
    """Add the steps of a reckoning, and of those that it comes of, which are not there yet."""
    if reckoning in places:
        return
    step = sources[reckoning]
    if step[0] == "less":
        add_steps(sources, step[2], steps, places)
        add_steps(sources, step[3], steps, places)
        step = ("less", step[1], places[step[2]], places[step[3]])
    places[reckoning] = len(steps)
    steps.append(step)
