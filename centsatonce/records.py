"""Records: sheets and deeds as tuples of octets.

An integer is a sign, three octets of length, and its octets, the highest first. A name is its
length and its letters, a lot of numbers its length and these.
"""

from centsatonce.checks import LETTERS
from centsatonce.errors import Broken, InvalidTable
from centsatonce.sheets import Sheet, is_sheet
from centsatonce.tables import Table

OCTETS = 256
LENGTH_OCTETS = 3
WORDS = ("line", "total", "drop", "kind", "name")
FORMS = {
    "line": ("number", "fraction", "integer"),
    "total": ("numbers",),
    "drop": ("number",),
    "kind": ("name", "numbers"),
    "name": ("number", "name"),
}


def octets_of(number):
    """Return the octets of a number, the highest first, none of 0."""
    octets = []
    while number > 0:
        number, octet = divmod(number, OCTETS)
        octets.append(octet)
    return tuple(reversed(octets))


def number_of(octets):
    """Return the number of some octets, the highest first."""
    number = 0
    for octet in octets:
        number = OCTETS * number + octet
    return number


def integer_record(integer):
    """Return the octets of an integer of any size."""
    octets = octets_of(abs(integer))
    length = octets_of(len(octets))
    filled = tuple([0 for _ in range(LENGTH_OCTETS - len(length))])
    return (int(integer < 0),) + filled + length + octets


def part_record(form, part):
    """Return the octets of a part of a sheet or of a deed."""
    if form == "number":
        return (part,)
    if form == "numbers":
        return (len(part),) + part
    if form == "name":
        return (len(part),) + tuple([LETTERS.index(letter) for letter in part])
    if form == "integer":
        return integer_record(part)
    return integer_record(part[0]) + integer_record(part[1])


def deed_record(deed):
    """Return the record of a deed."""
    record = (WORDS.index(deed[0]),)
    for form, part in zip(FORMS[deed[0]], deed[1:]):
        record = record + part_record(form, part)
    return record


def sheet_record(sheet):
    """Return the record of a sheet."""
    table = sheet.table
    record = [len(WORDS), len(table.kinds), len(table.totals)]
    for form, parts in (("name", table.kinds), ("numbers", table.totals), ("fraction", sheet.errors)):
        for part in parts:
            record.extend(part_record(form, part))
    return tuple(record)


class RecordReader:
    """The octets of a record, from the first one on; it changes."""

    def __init__(self, record):
        self.record = record
        self.place = 0

    def take(self, many):
        """Return so many further octets."""
        taken = self.record[self.place:self.place + many]
        if len(taken) < many:
            raise Broken("till")
        self.place += many
        return taken

    def take_one(self):
        """Return one further octet."""
        return self.take(1)[0]

    def take_integer(self):
        """Return an integer."""
        sign = -1 if self.take_one() else 1
        return sign * number_of(self.take(number_of(self.take(LENGTH_OCTETS))))

    def take_part(self, form):
        """Return a part of a sheet or of a deed."""
        if form == "number":
            return self.take_one()
        if form == "integer":
            return self.take_integer()
        if form == "fraction":
            top = self.take_integer()
            return (top, self.take_integer())
        octets = self.take(self.take_one())
        if form == "numbers":
            return octets
        if max(octets, default=0) >= len(LETTERS):
            raise Broken("till")
        return "".join([LETTERS[octet] for octet in octets])

    def take_parts(self, form, many):
        """Return a tuple of so many parts of one form."""
        return tuple([self.take_part(form) for _ in range(many)])


def read_deed(record):
    """Return what a record tells as a deed, whether there is such a deed or not."""
    reader = RecordReader(record)
    at = reader.take_one()
    if at >= len(WORDS):
        raise Broken("till")
    deed = (WORDS[at],)
    for form in FORMS[WORDS[at]]:
        deed = deed + (reader.take_part(form),)
    # No other record than its own is taken for that of a deed.
    if deed_record(deed) != record:
        raise Broken("till")
    return deed


def read_sheet(record):
    """Return the open sheet of a record."""
    reader = RecordReader(record)
    _, kinds, totals = reader.take(3)
    names = reader.take_parts("name", kinds)
    rows = reader.take_parts("numbers", totals)
    sheet = Sheet(table_or_broken(names, rows), reader.take_parts("fraction", kinds))
    if not is_sheet(sheet) or sheet_record(sheet) != record:
        raise Broken("till")
    return sheet


def table_or_broken(kinds, totals):
    """Return a table, or tell that a record is that of no till."""
    try:
        return Table(kinds, totals)
    except InvalidTable:
        raise Broken("till")
