"""Tables: kinds, totals of kinds, and the classes of kinds that lie in the same totals."""

from centsatonce.checks import are_names, are_unlike, is_ascending, is_lot_below, is_tuple_of
from centsatonce.errors import InvalidTable, Refused

MOST_KINDS = 12
MOST_TOTALS = 12


class Table:
    """Kinds, a lot of names, and totals, a tuple of lots of their numbers."""

    def __init__(self, kinds, totals):
        check_kinds(kinds)
        check_totals(totals, len(kinds))
        self.kinds = kinds
        self.totals = totals

    def __eq__(self, other):
        return isinstance(other, Table) and self.kinds == other.kinds and self.totals == other.totals


def check_kinds(kinds):
    """Refuse any value that is no lot of 1 to 12 names."""
    if not isinstance(kinds, tuple) or not 1 <= len(kinds) <= MOST_KINDS:
        raise InvalidTable(-2)
    if not are_names(kinds) or not is_ascending(kinds):
        raise InvalidTable(-2)


def check_totals(totals, many):
    """Refuse any value that is no tuple of at most 12 lots of numbers of so many kinds."""
    if not isinstance(totals, tuple) or len(totals) > MOST_TOTALS:
        raise InvalidTable(-1)
    for at, total in enumerate(totals):
        if not is_lot_below(total, many):
            raise InvalidTable(at)


def kind_number(table, name):
    """Return the number of the kind with a name."""
    if not isinstance(name, str) or name not in table.kinds:
        raise Refused("kind")
    return table.kinds.index(name)


def totals_with(table, kind):
    """Return the lot of all totals in which a kind lies."""
    return tuple([at for at, total in enumerate(table.totals) if kind in total])


def classes_of(table):
    """Return the classes, lots of kinds, by their least kinds."""
    by_totals = {}
    for kind in range(len(table.kinds)):
        by_totals.setdefault(totals_with(table, kind), []).append(kind)
    return tuple([tuple(kinds) for totals, kinds in by_totals.items() if totals])


def class_numbers(table):
    """Return for each kind the number of its class, None if it is in no total."""
    numbers = {}
    for at, kinds in enumerate(classes_of(table)):
        for kind in kinds:
            numbers[kind] = at
    return tuple([numbers.get(kind) for kind in range(len(table.kinds))])


def class_of_kind(table, kind):
    """Return the number of the class of a kind, None if it is in no total."""
    return class_numbers(table)[kind]


def totals_by_classes(table):
    """Return for each total the lot of its classes."""
    numbers = class_numbers(table)
    return tuple([tuple(sorted(set([numbers[kind] for kind in total]))) for total in table.totals])


def without_totals(table, totals):
    """Return the table without a lot of totals."""
    left = [total for at, total in enumerate(table.totals) if at not in totals]
    return Table(table.kinds, tuple(left))


def with_total(table, total):
    """Return the table with a further total behind the others."""
    if not is_lot_below(total, len(table.kinds)):
        raise Refused("total")
    if len(table.totals) >= MOST_TOTALS:
        raise Refused("size")
    return Table(table.kinds, table.totals + (total,))


def without_kinds(table, kinds):
    """Return the table of all kinds but a lot; totals lose these kinds, and stay."""
    left = tuple([kind for kind in range(len(table.kinds)) if kind not in kinds])
    if not left:
        raise Refused("kinds")
    names = tuple([table.kinds[kind] for kind in left])
    totals = [tuple([left.index(kind) for kind in total if kind in left]) for total in table.totals]
    return Table(names, tuple(totals))


def renamed_table(table, names):
    """Return the table with new names for the old numbers, and the new numbers of all kinds."""
    if not is_tuple_of(names, len(table.kinds)) or not are_names(names) or not are_unlike(names):
        raise Refused("names")
    return table_by_names(names, table.totals)


def table_by_names(names, totals):
    """Return the table of unlike names in any sequence and of totals of their numbers, and the new numbers of all."""
    kinds = tuple(sorted(names))
    numbers = tuple([kinds.index(name) for name in names])
    renumbered = [tuple(sorted([numbers[kind] for kind in total])) for total in totals]
    return (Table(kinds, tuple(renumbered)), numbers)


def merged(table):
    """Return the table in which each class is one kind, named like its least kind."""
    classes = classes_of(table)
    if not classes:
        raise Refused("kinds")
    return Table(tuple([table.kinds[kinds[0]] for kinds in classes]), totals_by_classes(table))


def core_of(table):
    """Return the merged table with each total just once, ascending, without empty ones."""
    whole = merged(table)
    return Table(whole.kinds, tuple(sorted(set([total for total in whole.totals if total]))))
