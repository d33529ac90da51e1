"""What knots spoil: derivations of what is beyond."""

from centsatonce.derivations import derived_by, joined_derivations
from centsatonce.knots import parted
from centsatonce.reckonings import is_beyond


def spoiling(table, knot):
    """Return, for a right knot, some derivation of what is beyond, with few differences and of little depth."""
    if knot.word == "ring":
        return way_derivation(knot.at + knot.at[:1], knot.totals, 1)
    return three_derivation(table, knot)


def way_derivation(classes, totals, sign):
    """Return a derivation along totals that tie classes, of what has a sign at the first one of these.

    At each further class reached it is 1 or -1, by turns: so an odd way that comes back to its first
    class has 2 there. Halves are joined, which keeps the depth small.
    """
    if len(totals) == 1:
        return (("total", totals[0], sign),)
    half = len(totals) // 2
    turned = sign if half & 1 else -sign
    one = way_derivation(classes[:half + 1], totals[:half], sign)
    other = way_derivation(classes[half:], totals[half:], turned)
    return joined_derivations(one, other, classes[half])


def three_derivation(table, knot):
    """Return a derivation of what is beyond, by a total S, and T and U that part it into three."""
    one, other = knot.totals
    both, first, second, none = parted(table, knot.at, one, other)
    if not first:
        one, other = other, one
        first, second = second, first
    base = (("total", knot.at, 1), ("total", one, 1), ("total", other, 1))
    if not both:
        # S - (T - U), and T - U is (S - U) - (S - T): 2 at second.
        ways = (("less", first[0], 0, 1), ("less", second[0], 0, 2), ("less", none[0], 4, 3))
        return base + ways + (("less", first[0], 0, 5),)
    if second:
        # S - (T - U): 2 at second.
        return base + (("less", both[0], 1, 2), ("less", first[0], 0, 3))
    # T - (S - U) is beyond where T and U meet outside S; otherwise S less this: 2 at none.
    steps = base + (("less", both[0], 0, 2), ("less", first[0], 1, 3))
    if is_beyond(derived_by(table, steps)):
        return steps
    return steps + (("less", both[0], 0, 4),)
