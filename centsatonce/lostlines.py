"""Lines of told sequences: which of them matter, which spoil, and where others can be put."""

from itertools import permutations

from centsatonce.checks import is_lot_below
from centsatonce.court import is_good
from centsatonce.errors import Refused
from centsatonce.sequences import is_kept
from centsatonce.toldpapers import BeatenPaper, told_paper
from centsatonce.toldsteps import line_classes

MOST_TO_PUT_BETWEEN = 40
MOST_TO_ORDER = 6


def thinned(table, sequence):
    """Return the lot of the lines that stay without those of no class, and those of the class of the line before."""
    stay = []
    last = None
    for at, number in enumerate(line_classes(table, sequence)):
        if number is not None:
            if number != last:
                stay.append(at)
            last = number
    return tuple(stay)


def picked(sequence, lines):
    """Return the sequence of some lines alone."""
    return tuple([sequence[at] for at in lines])


def lost_core(table, sequence):
    """Return some least lot of lines that cannot be kept alone, None if all can be kept."""
    paper = told_paper(table, sequence)
    if not isinstance(paper, BeatenPaper):
        return None
    # The paper is right for the lines alone that it names.
    named = [step[1] for step in paper.steps if step[0] == "less"]
    core = sorted(set(named + [paper.line]))
    for line in list(core):
        fewer = [at for at in core if at != line]
        if not is_kept(table, picked(sequence, fewer)):
            core = fewer
    return tuple(core)


def is_lost_core(table, sequence, value):
    """Return whether any value is a least lot of lines that cannot be kept alone."""
    if not is_lot_below(value, len(sequence)) or is_kept(table, picked(sequence, value)):
        return False
    for line in value:
        if not is_kept(table, picked(sequence, [at for at in value if at != line])):
            return False
    return True


def places_for(table, sequence, kind):
    """Return the lot of the places at which a line of a kind may be put between."""
    if len(sequence) > MOST_TO_PUT_BETWEEN:
        raise Refused("size")
    found = []
    for place in range(len(sequence) + 1):
        if is_kept(table, sequence[:place] + (kind,) + sequence[place:]):
            found.append(place)
    return tuple(found)


def kept_orders(table, sequence):
    """Return the ascending tuple of all sequences of just these lines that can be kept."""
    if len(sequence) > MOST_TO_ORDER:
        raise Refused("size")
    kinds = list(sequence)
    orders = sorted(set([order for order in permutations(kinds)]))
    return tuple([order for order in orders if is_kept(table, order)])


def keeps_all(table):
    """Return whether all sequences can be kept."""
    return is_good(table)
