"""A plain reader of the texts of promise [12], to read again what is shown."""

import re
from fractions import Fraction

from tests.helpers import told


def plain_marks(text):
    """The marks of a text as strings, by a regular expression."""
    return re.findall("[a-z]+|[0-9]+|\n|[^ ]", text)


def numeral(mark):
    """The number of a numeral, None if it is none."""
    if not re.fullmatch("0|[1-9][0-9]*", mark) or int(mark) > 10 ** 6:
        return None
    return int(mark)


def take_whole(marks):
    """The integer that the first marks tell, and the others."""
    sign = 1
    if marks[0] == "-":
        sign, marks = -1, marks[1:]
    number = numeral(marks[0])
    assert number is not None and (sign == 1 or number > 0), marks
    return sign * number, marks[1:]


def take_fraction(marks):
    """The fraction that the first marks tell, and the others."""
    top, marks = take_whole(marks)
    if marks[:1] != ["/"]:
        return (top, 1), marks
    bottom = numeral(marks[1])
    assert bottom, marks
    return told(Fraction(top, bottom)), marks[2:]


def lines_of(text):
    """The marks of each line that has some."""
    return [plain_marks(line) for line in text.split("\n") if plain_marks(line)]


def read_fraction(text):
    one, rest = take_fraction(plain_marks(text))
    assert not rest and "\n" not in text
    return one


def read_table(text):
    """The kinds and the totals of the text of a table."""
    lines = lines_of(text)
    assert lines[0][0] == "kinds" and 1 <= len(lines[0]) - 1 <= 12 and len(lines) <= 13
    kinds = tuple(sorted(lines[0][1:]))
    assert len(set(kinds)) == len(kinds) and all(re.fullmatch("[a-z]{1,6}", kind) for kind in kinds)
    totals = []
    for line in lines[1:]:
        assert line[0] == "total" and len(set(line[1:])) == len(line) - 1
        totals.append(tuple(sorted(kinds.index(name) for name in line[1:])))
    return kinds, tuple(totals)


def read_lines(table, text):
    found = []
    for marks in lines_of(text):
        amount, rest = take_fraction(marks[1:])
        assert not rest
        found.append((table.kinds.index(marks[0]), amount))
    return tuple(found)


def read_day(table, text):
    found = []
    for marks in lines_of(text):
        amount, rest = take_fraction(marks[1:])
        assert rest[0] == "="
        whole, rest = take_whole(rest[1:])
        assert not rest and abs(whole - Fraction(*amount)) < 1
        found.append((table.kinds.index(marks[0]), amount, whole))
    return tuple(found)


def read_sequence(table, text):
    assert "\n" not in text
    return tuple(table.kinds.index(mark) for mark in plain_marks(text))
