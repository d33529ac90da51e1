"""Fractions of any size: pairs (top, bottom) in lowest terms, the bottom above 0."""

from math import gcd, lcm

from centsatonce.checks import is_an_integer, is_tuple_of
from centsatonce.errors import InvalidNumber

ZERO = (0, 1)
ONE = (1, 1)


def fraction_of(top, bottom):
    """Return the fraction that two integers make."""
    if bottom == 0:
        raise InvalidNumber("bottom")
    shared = gcd(top, bottom)
    if bottom < 0:
        shared = -shared
    return (top // shared, bottom // shared)


def is_fraction(value):
    """Return whether any value is a fraction."""
    if not is_tuple_of(value, 2):
        return False
    top, bottom = value
    if not is_an_integer(top) or not is_an_integer(bottom):
        return False
    return bottom > 0 and gcd(top, bottom) == 1


def added(one, other):
    """Return the sum of two fractions."""
    top, bottom = one
    more, under = other
    # Common divisors of the sum divide this one: so long numbers need no long search.
    shared = gcd(bottom, under)
    rest = bottom // shared
    high = top * (under // shared) + more * rest
    common = gcd(high, shared)
    return (high // common, rest * (under // common))


def opposite_of(one):
    """Return 0 less a fraction."""
    top, bottom = one
    return (-top, bottom)


def taken(one, other):
    """Return the first fraction less the second one."""
    return added(one, opposite_of(other))


def timed(one, other):
    """Return the product of two fractions."""
    return fraction_of(one[0] * other[0], one[1] * other[1])


def is_less(one, other):
    """Return whether the first fraction is less than the second one."""
    return one[0] * other[1] < other[0] * one[1]


def is_small(one):
    """Return whether a fraction lies between -1 and 1."""
    return abs(one[0]) < one[1]


def are_small(some):
    """Return whether all of some fractions lie between -1 and 1."""
    return all([is_small(one) for one in some])


def floor_of(one):
    """Return the greatest integer that is not above a fraction."""
    return one[0] // one[1]


def ceiling_of(one):
    """Return the least integer that is not below a fraction."""
    return -(-one[0] // one[1])


def part_of(one):
    """Return a fraction less its floor."""
    top, bottom = one
    return (top - floor_of(one) * bottom, bottom)


def sum_of(some):
    """Return the sum of a tuple of fractions, perhaps none."""
    total = ZERO
    for one in some:
        total = added(total, one)
    return total


def sum_by_turns(some):
    """Return the sum of some fractions with signs by turns: +, -, +, and so on."""
    total = ZERO
    for at, one in enumerate(some):
        total = taken(total, one) if at & 1 else added(total, one)
    return total


def is_small_sum(some):
    """Return whether the sum of some fractions lies between -1 and 1."""
    # Long fractions take most of their time to be brought to lowest terms, which is not needed here.
    top, bottom = ZERO
    for more, under in some:
        top, bottom = top * under + more * bottom, bottom * under
    return abs(top) < bottom


def weighed(weights, some):
    """Return the sum of each integer times its fraction."""
    return sum_of([timed((weight, 1), one) for weight, one in zip(weights, some)])


def least_of(some):
    """Return the least one of a tuple of fractions, None of none."""
    least = None
    for one in some:
        if least is None or is_less(one, least):
            least = one
    return least


def greatest_of(some):
    """Return the greatest one of a tuple of fractions, None of none."""
    greatest = None
    for one in some:
        if greatest is None or is_less(greatest, one):
            greatest = one
    return greatest


def common_unit(fractions):
    """Return a number that the bottoms of all fractions divide."""
    unit = 1
    for _, bottom in fractions:
        unit = lcm(unit, bottom)
    return unit


def in_units(one, unit):
    """Return how many units a fraction is, with so many units in a whole."""
    return one[0] * (unit // one[1])
