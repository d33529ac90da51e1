"""Derivations with fewest differences."""

from centsatonce.court import is_good
from centsatonce.derivations import count_differences
from centsatonce.errors import Refused
from centsatonce.levels import derivation_from, first_sources
from centsatonce.reckonings import agreements, difference_of, is_reckoning


def fewest_differences(table, reckoning):
    """Return the least number of differences of a derivation of any value, None if it is not derived."""
    derivation = derivation_of(table, reckoning)
    return None if derivation is None else count_differences(derivation)


def derivation_of(table, reckoning):
    """Return some derivation with fewest differences of any value, None if it is not derived."""
    # Something derived is beyond exactly if the table is not good.
    if not is_good(table):
        raise Refused("beyond")
    if not is_reckoning(table, reckoning):
        return None
    sources = shortest_sources(table)
    return derivation_from(sources, reckoning) if reckoning in sources else None


def shortest_sources(table):
    """Return a dict from all that is derived to what it comes of, with fewest differences behind it.

    This is a step of a total, or ("less", class, one, other) with two reckonings themselves.
    """
    sources = first_sources(table)
    # With each reckoning its opposite is there, too: so it is enough to take those of totals away.
    base = list(sources)
    edge = base
    while edge:
        ahead = []
        for one in edge:
            for other in base:
                alike = agreements(one, other)
                fresh = difference_of(one, other)
                if alike and fresh not in sources:
                    sources[fresh] = ("less", alike[0], one, other)
                    ahead.append(fresh)
        edge = ahead
    return sources
