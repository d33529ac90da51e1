"""Papers of errors: what shows that they can be held, or that they cannot."""

from centsatonce.checks import is_tuple_of
from centsatonce.court import Blocks, court, is_blocks
from centsatonce.days import error_of_total
from centsatonce.held import lost_pairs
from centsatonce.knots import is_knot
from centsatonce.numbers import is_fraction, is_small, sum_by_turns
from centsatonce.reaches import is_post_way, post_way
from centsatonce.window import lie_from, points_of, window_of


class HeldPaper:
    """Blocks, and for each piece from where on its points lie; any values."""

    def __init__(self, blocks, least):
        self.blocks = blocks
        self.least = least


class LostPaper:
    """The posts and the totals of a way whose ends are too far apart; any values."""

    def __init__(self, posts, totals):
        self.posts = posts
        self.totals = totals


def held_paper(table, errors):
    """Return some right HeldPaper, otherwise a knot, otherwise some LostPaper with fewest totals."""
    verdict = court(table)
    if not isinstance(verdict, Blocks):
        return verdict
    lost = lost_pairs(table, errors)
    if lost:
        _, one, other = lost[0]
        posts, totals = post_way(table, one, other)
        return LostPaper(posts, totals)
    return HeldPaper(verdict, tuple([least for least, _ in window_of(table, verdict, errors)]))


def is_held_paper(table, errors, value):
    """Return whether any value is a right HeldPaper, knot or LostPaper."""
    if isinstance(value, HeldPaper):
        return is_right_held(table, errors, value)
    if isinstance(value, LostPaper):
        return is_right_lost(table, errors, value)
    return is_knot(table, value)


def is_right_held(table, errors, paper):
    """Return whether a HeldPaper is right, whatever it has."""
    if not is_blocks(table, paper.blocks) or not are_least(paper.blocks, paper.least):
        return False
    points = points_of(table, paper.blocks, errors)
    return all([lie_from(own, least) for own, least in zip(points, paper.least)])


def are_least(blocks, value):
    """Return whether any value is a tuple with a fraction for each piece."""
    return is_tuple_of(value, len(blocks.pieces)) and all([is_fraction(one) for one in value])


def is_right_lost(table, errors, paper):
    """Return whether a LostPaper is right, whatever it has."""
    if not is_post_way(table, paper.posts, paper.totals):
        return False
    return not is_small(sum_by_turns([error_of_total(table, errors, total) for total in paper.totals]))
