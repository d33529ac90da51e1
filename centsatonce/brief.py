"""Attacks by knots, as brief as the knots allow."""

from centsatonce.days import no_errors
from centsatonce.forcing import attack_along
from centsatonce.knots import odd_rings
from centsatonce.spoils import spoiling


def brief_spoiling(table, knot):
    """Return, for a right knot, some derivation of what is beyond, of as little depth as promised."""
    return spoiling(table, knot)


def attack_by(table, knot):
    """Return some attack from no errors, all of whose fractions are 1/2."""
    # From no errors whatever is reckoned is some halves, and so is what the lines are made of.
    return attack_along(table, no_errors(table), brief_spoiling(table, knot))


def shortest_ring(table):
    """Return some right knot "ring" with the fewest classes, None if there is none."""
    shortest = None
    for ring in odd_rings(table):
        if shortest is None or len(ring.at) < len(shortest.at):
            shortest = ring
    return shortest
