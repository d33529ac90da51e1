"""Pieces: classes to which totals lead from one another."""

from centsatonce.tables import classes_of, totals_by_classes, without_kinds, without_totals


def meets(total, piece):
    """Return whether a total has some class of a piece."""
    return any([number in piece for number in total])


def piece_from(totals, start):
    """Return the lot of one class and all those to which totals of classes lead from it."""
    piece = (start,)
    while True:
        reached = [number for total in totals if meets(total, piece) for number in total]
        wider = tuple(sorted(set(reached + list(piece))))
        if wider == piece:
            return piece
        piece = wider


def pieces_of(table):
    """Return all pieces, by their least classes."""
    totals = totals_by_classes(table)
    every = range(len(classes_of(table)))
    return tuple(sorted(set([piece_from(totals, number) for number in every])))


def piece_totals(table, piece):
    """Return the lot of all totals that have classes of a piece."""
    totals = totals_by_classes(table)
    return tuple([at for at, total in enumerate(totals) if meets(total, piece)])


def piece_kinds(table, piece):
    """Return the lot of all kinds of the classes of a piece."""
    classes = classes_of(table)
    return tuple(sorted([kind for number in piece for kind in classes[number]]))


def piece_table(table, piece):
    """Return the table of the kinds of a piece alone, with its totals."""
    kinds = piece_kinds(table, piece)
    totals = piece_totals(table, piece)
    others = tuple([kind for kind in range(len(table.kinds)) if kind not in kinds])
    spare = tuple([at for at in range(len(table.totals)) if at not in totals])
    return without_kinds(without_totals(table, spare), others)
