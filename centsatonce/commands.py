"""Commands for a till, and their texts."""

from centsatonce.checks import are_names, are_numbers_below, is_an_integer, is_name, is_number_below
from centsatonce.days import MILLION, is_amount
from centsatonce.errors import InvalidText
from centsatonce.lexer import numeral_of
from centsatonce.numbers import fraction_of
from centsatonce.printer import show_fraction, show_integer

NUMBERS = 13
FORMS = {
    "line": ("name", "amount"),
    "total": ("names",),
    "drop": ("number",),
    "kind": ("name", "numbers"),
    "name": ("name", "name"),
    "errors": (),
    "may": ("name", "amount", "whole"),
    "add": ("names",),
}
# What comes many times always comes last.
SINGLE = {"names": "name", "numbers": "number"}


def read_whole(word):
    """Return the integer of a numeral, perhaps with - before it, None of any other word."""
    if not word.startswith("-"):
        return numeral_of(word)
    number = numeral_of(word[1:])
    return -number if number else None


def read_amount(word):
    """Return the fraction that is shown by a word, None if there is none."""
    before, slash, behind = word.partition("/")
    top = read_whole(before)
    bottom = numeral_of(behind) if slash else 1
    if top is None or not bottom:
        return None
    amount = fraction_of(top, bottom)
    return amount if show_fraction(amount) == word else None


def is_command(value):
    """Return whether any value is a command."""
    if not isinstance(value, tuple) or not value:
        return False
    if not isinstance(value[0], str) or value[0] not in FORMS:
        return False
    form = FORMS[value[0]]
    if len(value) != 1 + len(form):
        return False
    return all([is_part(part, item) for part, item in zip(form, value[1:])])


def is_part(part, value):
    """Return whether any value is such a part of a command."""
    if part == "name":
        return is_name(value)
    if part == "names":
        return are_names(value)
    if part == "number":
        return is_number_below(value, NUMBERS)
    if part == "numbers":
        return are_numbers_below(value, NUMBERS)
    if part == "amount":
        return is_amount(value)
    return is_an_integer(value) and abs(value) <= MILLION


def read_part(part, word):
    """Return what a word tells as a single part of a command, if it tells something."""
    if part == "number":
        return numeral_of(word)
    if part == "amount":
        return read_amount(word)
    if part == "whole":
        return read_whole(word)
    return word


def read_command(words):
    """Return what one or more words tell as a command, None if they are too few or too many."""
    if words[0] not in FORMS:
        return None
    parts = [words[0]]
    left = words[1:]
    for part in FORMS[words[0]]:
        if part in SINGLE:
            parts.append(tuple([read_part(SINGLE[part], word) for word in left]))
            left = []
        elif left:
            parts.append(read_part(part, left[0]))
            left = left[1:]
    return None if left else tuple(parts)


def read_commands(text):
    """Return the commands of a text."""
    if not isinstance(text, str):
        raise InvalidText(-1, -1)
    commands = []
    for at, line in enumerate(text.split("\n")):
        words = [word for word in line.split(" ") if word]
        if words:
            command = read_command(words)
            if not is_command(command):
                raise InvalidText(at, 0)
            commands.append(command)
    return tuple(commands)


def show_part(part, value):
    """Return the words of a part of a command."""
    if part in SINGLE:
        return [word for item in value for word in show_part(SINGLE[part], item)]
    if part == "name":
        return [value]
    return [show_fraction(value) if part == "amount" else show_integer(value)]


def show_command(command):
    """Return the line of a command."""
    words = [command[0]]
    for part, value in zip(FORMS[command[0]], command[1:]):
        words.extend(show_part(part, value))
    return " ".join(words)


def show_commands(commands):
    """Return the text of a tuple of commands, one a line."""
    return "\n".join([show_command(command) for command in commands])
