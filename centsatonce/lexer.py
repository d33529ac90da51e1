"""The marks of a text, and the numerals among them."""

from centsatonce.checks import DIGITS, LETTERS

LONGEST_NUMERAL = 7
GREATEST_NUMERAL = 1000000


def run_signs(sign):
    """Return the signs of which a run that begins with a sign is made, none for a single sign."""
    if sign in LETTERS:
        return LETTERS
    if sign in DIGITS:
        return DIGITS
    return ""


def end_of_run(text, start):
    """Return the index behind the mark that begins at an index."""
    signs = run_signs(text[start])
    end = start + 1
    while end < len(text) and text[end] in signs:
        end += 1
    return end


def marks_of(text):
    """Return the marks of a string, (line, at, mark) each, in their sequence."""
    marks = []
    line = 0
    begin = 0
    at = 0
    while at < len(text):
        end = end_of_run(text, at)
        mark = text[at:end]
        if mark != " ":
            marks.append((line, at - begin, mark))
        if mark == "\n":
            line += 1
            begin = end
        at = end
    return tuple(marks)


def numeral_of(mark):
    """Return the number of a numeral, None of any other string."""
    # Longer runs are not even read: Python refuses to read very long ones.
    if not 1 <= len(mark) <= LONGEST_NUMERAL or not all([sign in DIGITS for sign in mark]):
        return None
    number = int(mark)
    return number if number <= GREATEST_NUMERAL and str(number) == mark else None
