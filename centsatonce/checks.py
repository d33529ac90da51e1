"""What any value is asked before it is used.

An object may compare as it likes, so its kind is asked before anything else.
"""

LETTERS = "abcdefghijklmnopqrstuvwxyz"
DIGITS = "0123456789"
LONGEST_NAME = 6


def is_an_integer(value):
    """Return whether any value is an int that is not a bool."""
    return isinstance(value, int) and not isinstance(value, bool)


def is_number(value):
    """Return whether any value is an integer from 0 on."""
    return is_an_integer(value) and value >= 0


def is_number_below(value, many):
    """Return whether any value is a number below a bound."""
    return is_number(value) and value < many


def is_sign(value):
    """Return whether any value is the integer 1 or -1."""
    return is_an_integer(value) and abs(value) == 1


def is_name(value):
    """Return whether any value is a string of 1 to 6 lower-case letters."""
    if not isinstance(value, str) or not 1 <= len(value) <= LONGEST_NAME:
        return False
    return all([letter in LETTERS for letter in value])


def is_tuple_of(value, many):
    """Return whether any value is a tuple of so many items."""
    return isinstance(value, tuple) and len(value) == many


def begins_with(value, word, many):
    """Return whether any value is a tuple of so many items, the first one a word."""
    return is_tuple_of(value, many) and isinstance(value[0], str) and value[0] == word


def are_names(value):
    """Return whether any value is a tuple of names."""
    return isinstance(value, tuple) and all([is_name(item) for item in value])


def are_numbers_below(value, many):
    """Return whether any value is a tuple of numbers below a bound."""
    return isinstance(value, tuple) and all([is_number_below(item, many) for item in value])


def are_unlike(some):
    """Return whether no item of a tuple of strings or integers stands in it twice."""
    return len(set(some)) == len(some)


def is_ascending(some):
    """Return whether a tuple of strings or integers is a lot."""
    return all([one < other for one, other in zip(some, some[1:])])


def is_lot_below(value, many):
    """Return whether any value is a lot of numbers below a bound."""
    return are_numbers_below(value, many) and is_ascending(value)
