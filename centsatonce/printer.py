"""The texts of fractions, tables, lines, days and sequences."""

RUN_LENGTH = 64


def show_number(number):
    """Return the decimal digits of a number."""
    # Python itself refuses to show integers of more than some thousand digits.
    unit = 10 ** 64
    runs = []
    while number >= unit:
        number, run = divmod(number, unit)
        runs.append(str(run).zfill(RUN_LENGTH))
    runs.append(str(number))
    return "".join(reversed(runs))


def show_integer(integer):
    """Return the decimal digits of an integer, with - before them below 0."""
    if integer < 0:
        return "-" + show_number(-integer)
    return show_number(integer)


def show_fraction(one):
    """Return the text of a fraction, a whole without /."""
    top, bottom = one
    if bottom == 1:
        return show_integer(top)
    return show_integer(top) + "/" + show_number(bottom)


def show_names(table, kinds):
    """Return the names of some kinds with single blanks between."""
    return " ".join([table.kinds[kind] for kind in kinds])


def show_table(table):
    """Return the text of a table."""
    lines = ["kinds " + " ".join(table.kinds)]
    for total in table.totals:
        lines.append("total " + show_names(table, total) if total else "total")
    return "\n".join(lines)


def show_lines(table, lines):
    """Return the text of lines of a table."""
    return "\n".join([table.kinds[kind] + " " + show_fraction(amount) for kind, amount in lines])


def show_day(table, day):
    """Return the text of a day."""
    lines = []
    for kind, amount, whole in day:
        lines.append(table.kinds[kind] + " " + show_fraction(amount) + " = " + show_integer(whole))
    return "\n".join(lines)


def show_sequence(table, sequence):
    """Return the text of a sequence."""
    return show_names(table, sequence)
