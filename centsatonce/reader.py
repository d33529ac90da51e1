"""Texts of fractions, tables, lines, days and sequences, read mark by mark.

A scanner is given one mark after another. Its take tells whether some such text goes on so, its
rest is what is still to be added to make the text whole, and found tells what the whole text tells.
"""

from centsatonce.checks import is_name
from centsatonce.days import MOST_LINES, choices
from centsatonce.errors import InvalidText
from centsatonce.lexer import marks_of, numeral_of
from centsatonce.numbers import fraction_of
from centsatonce.tables import MOST_KINDS, MOST_TOTALS, Table


class FractionScanner:
    """The marks of a fraction."""

    def __init__(self):
        self.sign = 1
        self.top = None
        self.slash = False
        self.bottom = None

    def take(self, mark):
        """Take one more mark, or return False if none of these texts goes on so."""
        if self.top is None:
            return self.take_top(mark)
        if not self.slash:
            self.slash = mark == "/"
            return self.slash
        number = numeral_of(mark)
        if self.bottom is not None or not number:
            return False
        self.bottom = number
        return True

    def take_top(self, mark):
        """Take a mark ahead of the slash."""
        if mark == "-" and self.sign == 1:
            self.sign = -1
            return True
        number = numeral_of(mark)
        if number is None or (number == 0 and self.sign == -1):
            return False
        self.top = number
        return True

    def rest(self):
        """Return what is to be added."""
        lacks = self.top is None or (self.slash and self.bottom is None)
        return "1" if lacks else ""

    def found(self):
        """Return the fraction, with 1 for a number that is still to be added."""
        top = 1 if self.top is None else self.top
        bottom = 1 if self.bottom is None else self.bottom
        return fraction_of(self.sign * top, bottom)


class WholeScanner:
    """The marks of one of some wholes next to an amount."""

    def __init__(self, wholes):
        self.wholes = wholes
        self.sign = 1
        self.whole = None

    def take(self, mark):
        """Take one more mark, or return False if none of these texts goes on so."""
        if self.whole is not None:
            return False
        if mark == "-" and self.sign == 1 and self.wholes[0] < 0:
            self.sign = -1
            return True
        number = numeral_of(mark)
        if number is None or (number == 0 and self.sign == -1) or self.sign * number not in self.wholes:
            return False
        self.whole = self.sign * number
        return True

    def rest(self):
        """Return what is to be added."""
        if self.whole is not None:
            return ""
        return str(self.sign * self.wholes[0])

    def found(self):
        """Return the whole."""
        return self.whole


class TableScanner:
    """The marks of a table."""

    def __init__(self):
        self.rows = []
        self.within = False

    def take(self, mark):
        """Take one more mark, or return False if none of these texts goes on so."""
        if mark == "\n":
            ends = not self.within or self.rows != [[]]
            self.within = False
            return ends
        if self.within:
            return self.take_name(mark)
        return self.take_word(mark)

    def take_word(self, mark):
        """Take the first mark of a line."""
        if mark != ("total" if self.rows else "kinds") or len(self.rows) > MOST_TOTALS:
            return False
        self.rows.append([])
        self.within = True
        return True

    def take_name(self, mark):
        """Take a name behind the first mark of a line."""
        row = self.rows[-1]
        if len(self.rows) == 1:
            fits = is_name(mark) and len(row) < MOST_KINDS
        else:
            fits = mark in self.rows[0]
        if not fits or mark in row:
            return False
        row.append(mark)
        return True

    def rest(self):
        """Return what is to be added."""
        if not self.rows:
            return "kinds a"
        return "" if self.rows[0] else "a"

    def found(self):
        """Return the table."""
        kinds = sorted(self.rows[0])
        totals = [tuple(sorted([kinds.index(name) for name in row])) for row in self.rows[1:]]
        return Table(tuple(kinds), tuple(totals))


class LinesScanner:
    """The marks of lines of a table, or of a day."""

    def __init__(self, table, is_of_day):
        self.table = table
        self.is_of_day = is_of_day
        self.lines = []
        self.kind = None
        self.amount = None
        self.whole = None

    def take(self, mark):
        """Take one more mark, or return False if none of these texts goes on so."""
        if self.kind is None:
            return mark == "\n" or self.take_kind(mark)
        if self.whole is None and not self.amount.rest():
            if mark == "=" and self.is_of_day:
                self.whole = WholeScanner(choices(self.amount.found()))
                return True
        if mark == "\n":
            return self.take_end()
        return self.amount.take(mark) if self.whole is None else self.whole.take(mark)

    def take_kind(self, mark):
        """Take the first mark of a line that is not empty."""
        if mark not in self.table.kinds or len(self.lines) == MOST_LINES:
            return False
        self.kind = self.table.kinds.index(mark)
        self.amount = FractionScanner()
        return True

    def take_end(self):
        """Take the newline that ends a line."""
        if self.rest():
            return False
        self.lines.append(self.present_line())
        self.kind = None
        self.amount = None
        self.whole = None
        return True

    def rest(self):
        """Return what is to be added."""
        if self.kind is None:
            return ""
        if not self.is_of_day:
            return self.amount.rest()
        if self.whole is not None:
            return self.whole.rest()
        return self.amount.rest() + "=" + str(choices(self.amount.found())[0])

    def present_line(self):
        """Return the line that is not ended yet."""
        line = (self.kind, self.amount.found())
        return line + (self.whole.found(),) if self.is_of_day else line

    def found(self):
        """Return the lines."""
        lines = tuple(self.lines)
        return lines if self.kind is None else lines + (self.present_line(),)


class SequenceScanner:
    """The marks of a sequence."""

    def __init__(self, table):
        self.table = table
        self.kinds = []

    def take(self, mark):
        """Take one more mark, or return False if none of these texts goes on so."""
        if mark not in self.table.kinds or len(self.kinds) == MOST_LINES:
            return False
        self.kinds.append(self.table.kinds.index(mark))
        return True

    def rest(self):
        """Return what is to be added."""
        return ""

    def found(self):
        """Return the sequence."""
        return tuple(self.kinds)


def scan(scanner, text):
    """Give a scanner all marks of any value as a text, and refuse the first mark that it does not take."""
    if not isinstance(text, str):
        raise InvalidText(-1, -1)
    for line, at, mark in marks_of(text):
        if not scanner.take(mark):
            raise InvalidText(line, at)


def read_by(scanner, text):
    """Return what any value tells that is such a text."""
    scan(scanner, text)
    if scanner.rest():
        lines = text.split("\n")
        raise InvalidText(len(lines) - 1, len(lines[-1]))
    return scanner.found()


def completed_by(scanner, text):
    """Return some such text that begins with any value and its marks."""
    scan(scanner, text)
    rest = scanner.rest()
    # The blank keeps what is added from going on with the last mark.
    return text + " " + rest if rest else text


def read_fraction(text):
    """Return the fraction that a text tells."""
    return read_by(FractionScanner(), text)


def read_table(text):
    """Return the table that a text tells."""
    return read_by(TableScanner(), text)


def read_lines(table, text):
    """Return the lines that a text tells."""
    return read_by(LinesScanner(table, False), text)


def read_day(table, text):
    """Return the day, kept or not, that a text tells."""
    return read_by(LinesScanner(table, True), text)


def read_sequence(table, text):
    """Return the sequence that a text tells."""
    return read_by(SequenceScanner(table), text)


def completed_fraction(text):
    """Return some text of a fraction that begins with a text."""
    return completed_by(FractionScanner(), text)


def completed_table(text):
    """Return some text of a table that begins with a text."""
    return completed_by(TableScanner(), text)


def completed_lines(table, text):
    """Return some text of lines that begins with a text."""
    return completed_by(LinesScanner(table, False), text)


def completed_day(table, text):
    """Return some text of a day that begins with a text."""
    return completed_by(LinesScanner(table, True), text)


def completed_sequence(table, text):
    """Return some text of a sequence that begins with a text."""
    return completed_by(SequenceScanner(table), text)
