"""What several tests share: odd values, random tables, and plain reckoning with fractions."""

import random
from fractions import Fraction
from itertools import product

from centsatonce.tables import Table

NAMES = ("bun", "cup", "egg", "fig", "ham", "jam", "kiwi", "lime", "nut", "oat", "pie", "tea")


class Rude:
    """An object that raises whatever it is asked."""

    def _refuse(self, *told):
        raise RuntimeError("asked")

    __eq__ = __ne__ = __lt__ = __le__ = __gt__ = __ge__ = _refuse
    __hash__ = __len__ = __iter__ = __bool__ = __getitem__ = __contains__ = _refuse
    __int__ = __index__ = __abs__ = __neg__ = __add__ = __radd__ = __str__ = __repr__ = _refuse


class Yes:
    """An object that is equal to all, with any attribute, and as long as one likes."""

    def __eq__(self, other):
        return True

    def __ne__(self, other):
        return False

    def __hash__(self):
        return 1

    def __len__(self):
        return 2

    def __iter__(self):
        return iter((0, 1))

    def __getitem__(self, at):
        return 1

    def __getattr__(self, name):
        if name.startswith("__"):
            raise AttributeError(name)
        return 1

    def __index__(self):
        return 1

    def __lt__(self, other):
        return True

    __le__ = __gt__ = __ge__ = __lt__


def deep_tuple(depth):
    """A tuple that holds a tuple that holds .. and so on."""
    deep = ()
    for _ in range(depth):
        deep = (deep,)
    return deep


def odd_values():
    """Values of many kinds, of which none is an integer, a fraction, a name or a lot of numbers."""
    return [
        True, False, None, 1.0, 0.0, float("nan"), 1j, "", "Tea", "tea ", "1", "te-a", "seventy", b"tea",
        [], [0], [0, 1], {}, {0: 1}, set(), {0}, frozenset((0,)), range(2), object(), Rude(), Yes(), Table,
        Table(("cup",), ((0,),)), ValueError(1), len, (True,), (None,), ([],), (0.0,), ("0",), (Rude(),), (Yes(),),
        (Rude(), Rude()), (Yes(), Yes()), (0, True), (True, 1), (1, False), ("a", "A"), ((), ()), (1, 0), (0, 0),
        (2, 1, 0), (-1,), (-1, 0), (10 ** 30,), deep_tuple(5000), iter(()), Fraction(1, 2), (0, 1.0), (0, None),
        (0, Rude()), (0, Yes()), ("total", Rude(), 1), ("off", Rude()), (Yes(), 0, 1), (Rude(), 0, 1), (Rude(), 0),
    ]


def with_swapped(value, other):
    """Yield all values that a value becomes if one item, at any depth, is another value."""
    if value is not other:
        yield other
    if isinstance(value, tuple):
        for at, item in enumerate(value):
            for swapped in with_swapped(item, other):
                yield value[:at] + (swapped,) + value[at + 1:]
        yield list(value)


def swapped_objects(make, parts, other):
    """Yield all objects of a class in which one item, at any depth, is another value."""
    for at, part in enumerate(parts):
        for swapped in with_swapped(part, other):
            yield make(*parts[:at], swapped, *parts[at + 1:])


def odd_objects(make, many):
    """Objects of a class that have one odd value in all places."""
    return [make(*[value] * many) for value in odd_values()]


OTHERS = (True, False, None, 1.0, 0.0, "1", "", [], {}, -1, -2, 9, 10 ** 30, (), (0,), Rude(), Yes())


def random_table(rng, most_kinds=6, most_totals=5, sizes=None, least_kinds=1):
    """A table with few kinds and totals, empty and equal totals among them."""
    many = rng.randint(least_kinds, most_kinds)
    totals = []
    for _ in range(rng.randint(0, most_totals)):
        size = rng.choice(sizes) if sizes else rng.randint(0, many)
        totals.append(tuple(sorted(rng.sample(range(many), min(size, many)))))
    return Table(NAMES[:many], tuple(totals))


def random_tables(seed, many, **limits):
    """So many random tables, the same ones for the same seed."""
    rng = random.Random(seed)
    return [random_table(rng, **limits) for _ in range(many)]


def exact(one):
    """The Fraction of a fraction."""
    return Fraction(one[0], one[1])


def told(one):
    """The fraction of a Fraction."""
    one = Fraction(one)
    return (one.numerator, one.denominator)


def random_fraction(rng, size=20, bottoms=(1, 2, 3, 4, 5, 6, 7, 12)):
    """A fraction of a top up to a size."""
    return told(Fraction(rng.randint(-size, size), rng.choice(bottoms)))


def random_lines(rng, table, many, size=8):
    """So many lines of a table."""
    return tuple((rng.randrange(len(table.kinds)), random_fraction(rng, size)) for _ in range(many))


def rounded(rng, lines):
    """A day of lines, each rounded down or up by chance."""
    day = []
    for kind, amount in lines:
        low = exact(amount).__floor__()
        day.append((kind, amount, low if amount[1] == 1 else low + rng.randint(0, 1)))
    return tuple(day)


def kind_errors(table, day):
    """The errors of all kinds behind a day, as Fractions."""
    errors = [Fraction(0)] * len(table.kinds)
    for kind, amount, whole in day:
        errors[kind] += whole - exact(amount)
    return errors


def errors_by_total(table, errors):
    """The errors of all totals, as Fractions, by those of the kinds."""
    return [sum((errors[kind] for kind in total), Fraction(0)) for total in table.totals]


def is_kept_day(table, day):
    """Whether behind each line all errors of totals lie between -1 and 1."""
    for many in range(1, len(day) + 1):
        if any(abs(error) >= 1 for error in errors_by_total(table, kind_errors(table, day[:many]))):
            return False
    return True


def plain_classes(table):
    """The classes, by comparing each two kinds."""
    classes = []
    for kind in range(len(table.kinds)):
        own = [kind in total for total in table.totals]
        for found in classes:
            if [found[0] in total for total in table.totals] == own:
                found.append(kind)
                break
        else:
            if any(own):
                classes.append([kind])
    return [tuple(found) for found in classes]


def plain_totals(table):
    """For each total the tuple of its classes."""
    classes = plain_classes(table)
    return [tuple(at for at, kinds in enumerate(classes) if kinds[0] in total) for total in table.totals]


def is_good_table(table):
    """Whether some colours give each total at most two classes, of unlike colours."""
    totals = plain_totals(table)
    if any(len(total) > 2 for total in totals):
        return False
    for colours in product((1, -1), repeat=len(plain_classes(table))):
        if all(len(total) < 2 or colours[total[0]] != colours[total[1]] for total in totals):
            return True
    return False


def every_table(many_kinds, many_totals):
    """All tables of so many kinds with a lot of so many totals, none of them empty."""
    lots = [lot for lot in product((0, 1), repeat=many_kinds) if any(lot)]
    totals = [tuple(kind for kind in range(many_kinds) if lot[kind]) for lot in lots]
    for chosen in product(totals, repeat=many_totals):
        if list(chosen) == sorted(chosen):
            yield Table(NAMES[:many_kinds], tuple(chosen))


def raised(call, *values, **named):
    """The name of the error that a call raises, and its attributes; None if it raises none."""
    try:
        call(*values, **named)
    except ValueError as error:
        return (error.__class__.__name__, vars(error))
    return None
