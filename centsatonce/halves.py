"""Lines of one half each: the states that they lead to, and whether they beat every clerk.

A state has the errors of all totals, doubled: so a half changes them by 1, and 2 is off.
"""

from centsatonce.checks import is_an_integer, is_tuple_of
from centsatonce.errors import Refused

MOST_STATES = 400
HALF = (1, 2)
UP = 1
DOWN = -1


def state_without_errors(table):
    """Return the state ahead of all lines."""
    return tuple([0 for _ in table.totals])


def hits_of(table):
    """Return for each kind a tuple with 1 for each total in which it lies, otherwise 0."""
    hits = []
    for kind in range(len(table.kinds)):
        hits.append(tuple([int(kind in total) for total in table.totals]))
    return hits


def moved(state, hit, change):
    """Return the state behind a line that is rounded up or down, off or not."""
    return tuple([error + change * many for error, many in zip(state, hit)])


def off_total(state):
    """Return the least total that is off in a state, None if none is."""
    for total, error in enumerate(state):
        if abs(error) > 1:
            return total
    return None


def kept_behind(state, hits):
    """Return the states behind one line from a state, without those in which a total is off."""
    behind = [moved(state, hit, change) for hit in hits for change in (UP, DOWN)]
    return [one for one in behind if off_total(one) is None]


def half_states(table):
    """Return the lot of the states behind all kept days of halves."""
    hits = hits_of(table)
    start = state_without_errors(table)
    known = {start: True}
    edge = [start]
    while edge:
        ahead = []
        for state in edge:
            for behind in kept_behind(state, hits):
                if behind not in known:
                    known[behind] = True
                    ahead.append(behind)
        if len(known) > MOST_STATES:
            raise Refused("size")
        edge = ahead
    return tuple(sorted(list(known)))


def lost_states(table):
    """Return a dict from each state from which halves beat every clerk to the fewest lines."""
    states = half_states(table)
    hits = hits_of(table)
    lost = {}
    lines = 0
    while True:
        lines += 1
        fresh = [state for state in states if state not in lost and beating_kind(hits, lost, state) is not None]
        if not fresh:
            return lost
        for state in fresh:
            lost[state] = lines


def beating_kind(hits, lost, state):
    """Return the least kind of which a line leads to nothing but states off or lost, None if none does."""
    for kind, hit in enumerate(hits):
        if is_beaten(lost, moved(state, hit, UP)) and is_beaten(lost, moved(state, hit, DOWN)):
            return kind
    return None


def is_beaten(lost, state):
    """Return whether a state is off or lost."""
    return state in lost or off_total(state) is not None


def fewest_lines(table):
    """Return how many halves are enough to beat every clerk, None if none are."""
    return lost_states(table).get(state_without_errors(table))


def clerk_table(table):
    """Return some clerk's table, None if there is none."""
    lost = lost_states(table)
    if state_without_errors(table) in lost:
        return None
    hits = hits_of(table)
    pairs = []
    for state in half_states(table):
        if state not in lost:
            ups = [int(is_beaten(lost, moved(state, hit, DOWN))) for hit in hits]
            pairs.append((state, tuple(ups)))
    return tuple(pairs)


def is_clerk_table(table, value):
    """Return whether any value is a clerk's table."""
    if not isinstance(value, tuple):
        return False
    if not all([is_clerk_pair(table, pair) for pair in value]):
        return False
    states = [state for state, ups in value]
    if not all([one < other for one, other in zip(states, states[1:])]):
        return False
    known = {state: True for state in states}
    if state_without_errors(table) not in known:
        return False
    return all([stays_within(hits_of(table), known, state, ups) for state, ups in value])


def is_clerk_pair(table, value):
    """Return whether any value is a pair of a state and ups."""
    if not is_tuple_of(value, 2):
        return False
    return are_entries(value[0], len(table.totals), -1) and are_entries(value[1], len(table.kinds), 0)


def are_entries(value, many, least):
    """Return whether any value is a tuple of so many integers from a least one to 1."""
    if not is_tuple_of(value, many):
        return False
    return all([is_an_integer(entry) and least <= entry <= 1 for entry in value])


def stays_within(hits, known, state, ups):
    """Return whether a half of any kind, rounded as ups tells, leads to a known state."""
    for hit, up in zip(hits, ups):
        if moved(state, hit, UP if up else DOWN) not in known:
            return False
    return True


def least_attack(table):
    """Return some tree of halves that beats every clerk with fewest lines, None if there is none."""
    lost = lost_states(table)
    start = state_without_errors(table)
    return tree_from(hits_of(table), lost, start) if start in lost else None


def tree_from(hits, lost, state):
    """Return a tree of halves that beats every clerk from a state that is off or lost."""
    off = off_total(state)
    if off is not None:
        return ("off", off)
    sooner = {one: True for one in lost if lost[one] < lost[state]}
    kind = beating_kind(hits, sooner, state)
    high = tree_from(hits, lost, moved(state, hits[kind], UP))
    low = tree_from(hits, lost, moved(state, hits[kind], DOWN))
    return ("line", kind, HALF, high, low)
