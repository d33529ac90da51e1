"""All that is derived, and closed lots of reckonings."""

from centsatonce.checks import is_ascending
from centsatonce.levels import least_beyond, levels_of
from centsatonce.reckonings import agreements, difference_of, is_beyond, is_reckoning, opposite_reckoning
from centsatonce.reckonings import total_reckonings


def derived_lot(table):
    """Return ("closed", the lot of all that is derived), or ("beyond", a derivation)."""
    derivation = least_beyond(table)
    if derivation is not None:
        return ("beyond", derivation)
    return ("closed", levels_of(table)[-1])


def closes(table):
    """Return whether nothing that is derived is beyond."""
    return least_beyond(table) is None


def is_closed_lot(table, value):
    """Return whether any value is a closed lot."""
    if not isinstance(value, tuple):
        return False
    if not all([is_reckoning(table, one) for one in value]) or not is_ascending(value):
        return False
    known = {one: True for one in value}
    for one in total_reckonings(table):
        if one not in known or opposite_reckoning(one) not in known:
            return False
    if any([is_beyond(one) for one in value]):
        return False
    return all([differs_within(known, one) for one in value])


def differs_within(known, one):
    """Return whether each difference of a reckoning and one that agrees with it somewhere is known."""
    for other in known:
        if difference_of(one, other) not in known and agreements(one, other):
            return False
    return True
