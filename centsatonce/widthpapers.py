"""Papers of widths: colours that keep totals narrow, or trees that show that none do.

A tree is ("over", total) or ("class", number, white, black).
"""

from centsatonce.checks import begins_with, is_an_integer, is_number_below, is_tuple_of
from centsatonce.narrow import colours_within, narrowest_pair
from centsatonce.tables import classes_of, totals_by_classes
from centsatonce.wider import is_colouring, widths_of


def barring_tree(table, most):
    """Return some tree that shows that no colours keep all widths to their numbers, None if some do."""
    if colours_within(table, most) is not None:
        return None
    return tree_for(totals_by_classes(table), most, {})


def tree_for(totals, most, known):
    """Return a tree for some known colours, where no others keep all widths to their numbers."""
    for at in range(len(totals)):
        if is_over(totals, most, known, at):
            return ("over", at)
    number = len(known)
    white, black = [tree_for(totals, most, {**known, number: colour}) for colour in (1, -1)]
    return ("class", number, white, black)


def is_over(totals, most, known, at):
    """Return whether a total has more known classes of one colour than its number."""
    whites = len([number for number in totals[at] if known.get(number) == 1])
    blacks = len([number for number in totals[at] if known.get(number) == -1])
    return max(whites, blacks) > most[at]


def is_barring_tree(table, most, value):
    """Return whether any value is a tree."""
    return is_tree_for(totals_by_classes(table), most, len(classes_of(table)), {}, value)


def is_tree_for(totals, most, many, known, value):
    """Return whether any value is a tree for some known colours of so many classes."""
    if begins_with(value, "over", 2):
        return is_number_below(value[1], len(totals)) and is_over(totals, most, known, value[1])
    if not begins_with(value, "class", 4) or not is_number_below(value[1], many) or value[1] in known:
        return False
    if not is_tree_for(totals, most, many, {**known, value[1]: 1}, value[2]):
        return False
    return is_tree_for(totals, most, many, {**known, value[1]: -1}, value[3])


def width_paper(table, most):
    """Return ("colours", colours) that keep all widths to their numbers, or ("tree", tree)."""
    colours = colours_within(table, most)
    if colours is None:
        return ("tree", tree_for(totals_by_classes(table), most, {}))
    return ("colours", colours)


def is_width_paper(table, most, value):
    """Return whether any value is a right paper of one of the two forms."""
    if begins_with(value, "colours", 2):
        return are_within(table, most, value[1])
    return begins_with(value, "tree", 2) and is_barring_tree(table, most, value[1])


def are_within(table, most, value):
    """Return whether any value is colours that keep all widths to their numbers."""
    if not is_colouring(table, value):
        return False
    return all([width <= number for width, number in zip(widths_of(table, value), most)])


def alike(table, number):
    """Return a tuple with a number for each total."""
    return tuple([number for _ in table.totals])


def narrowest_paper(table):
    """Return the least greatest width, colours by which it is that, and a tree for one less, None below 0."""
    number, colours = narrowest_pair(table)
    if number == 0:
        return (number, colours, None)
    return (number, colours, barring_tree(table, alike(table, number - 1)))


def is_narrowest_paper(table, value):
    """Return whether any value is a paper for the least greatest width."""
    if not is_tuple_of(value, 3) or not is_an_integer(value[0]) or value[0] < 0:
        return False
    number, colours, tree = value
    if not are_within(table, alike(table, number), colours):
        return False
    if number == 0:
        return tree is None
    return is_barring_tree(table, alike(table, number - 1), tree)
