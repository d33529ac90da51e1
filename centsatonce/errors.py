"""The errors of the package; each keeps what it is given."""


class TillError(ValueError):
    """What all errors of the package have in common."""


class InvalidTable(TillError):
    """No table: at is -2 for the kinds, -1 for the totals, else the index of a total."""

    def __init__(self, at):
        self.at = at


class InvalidText(TillError):
    """No such text: the line and the place of what is refused."""

    def __init__(self, line, at):
        self.line = line
        self.at = at


class InvalidLine(TillError):
    """No line of a table: at is -1 for its form, else the index of an item."""

    def __init__(self, at):
        self.at = at


class InvalidDay(TillError):
    """No day or tape: at is -1 for its form, else the index of an item."""

    def __init__(self, at):
        self.at = at


class InvalidPaper(TillError):
    """No right paper."""

    def __init__(self, at):
        self.at = at


class InvalidNumber(TillError):
    """A number that cannot be used; the word tells which."""

    def __init__(self, word):
        self.word = word


class Refused(TillError):
    """What cannot be done; the word tells why."""

    def __init__(self, word):
        self.word = word


class Broken(TillError):
    """Cells that hold nothing that can be read; the word tells what was looked for."""

    def __init__(self, word):
        self.word = word
