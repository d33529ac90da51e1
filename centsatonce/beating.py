"""Amounts for told sequences by which whoever rounds is beaten."""

from centsatonce.numbers import ZERO
from centsatonce.pressing import bursting_amount, parting_amount
from centsatonce.reckonings import class_errors, is_off_by
from centsatonce.toldpapers import BeatenPaper
from centsatonce.toldsteps import facts_of, line_classes


def beating_amount(table, sequence, paper, place, errors):
    """Return the amount by which a paper beats whoever rounds the line at a place, by the errors ahead of it."""
    facts = facts_of(table, sequence, paper.steps)
    of_classes = class_errors(table, errors)
    number = line_classes(table, sequence)[place]
    if isinstance(paper, BeatenPaper) and place <= paper.line:
        last = facts[-1][0]
        if place < paper.line or is_off_by(last, of_classes):
            return ZERO
        return bursting_amount(last, number, of_classes)
    off = [at for at, fact in enumerate(facts) if fact[1] >= place and is_off_by(fact[0], of_classes)]
    # A whole changes no error: what is off, and still holds behind the line, stays off.
    if not off or any([facts[at][1] > place for at in off]):
        return ZERO
    parts = [facts[part][0] for part in paper.steps[off[0]][2:]]
    return parting_amount(parts, number, of_classes)
