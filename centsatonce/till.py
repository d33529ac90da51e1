"""The till: a sheet and the deeds that led to it, in a journal that may be cut anywhere."""

from centsatonce.deeds import is_deed, line_deed, sheet_after
from centsatonce.errors import Broken, Refused
from centsatonce.journal import Journal
from centsatonce.records import deed_record, read_deed, read_sheet, sheet_record
from centsatonce.sheets import new_sheet


class Till:
    """The till on a disk; sheet is the present one."""

    def __init__(self, disk):
        self.disk = disk
        self._journal = Journal(disk)
        self._deeds = []
        self._sheets = []
        self._read_all()
        self.sheet = self._sheets[-1]

    def do(self, deed):
        """Do a deed and return it."""
        if not is_deed(self.sheet, deed):
            raise Refused("deed")
        self._journal.write(deed_record(deed))
        self._deeds.append(deed)
        self._sheets.append(sheet_after(self.sheet, deed))
        self.sheet = self._sheets[-1]
        return deed

    def enter(self, kind, amount, wish):
        """Round a line to the whole nearest to an integer that can be taken, and return it."""
        return self.do(line_deed(self.sheet, kind, amount, wish))[3]

    def undo(self, many):
        """Take back the last deeds that are kept, so many."""
        if many > len(self._deeds):
            raise Refused("deeds")
        self._journal.drop(many)
        left = len(self._deeds) - many
        self._deeds = self._deeds[:left]
        self._sheets = self._sheets[:left + 1]
        self.sheet = self._sheets[-1]

    def deeds(self):
        """Return the tuple of all deeds that are kept since the till began or was packed."""
        return tuple(self._deeds)

    def begun(self):
        """Return the sheet of the moment when the till began or was packed."""
        return self._sheets[0]

    def pack(self):
        """Keep the present sheet without deeds."""
        self._journal.renew((sheet_record(self.sheet),))
        self._deeds = []
        self._sheets = [self.sheet]

    def _read_all(self):
        """Find the sheet and the deeds that lie in the journal."""
        records = self._journal.records()
        if not records:
            raise Broken("till")
        self._sheets.append(read_sheet(records[0]))
        for record in records[1:]:
            deed = read_deed(record)
            if not is_deed(self._sheets[-1], deed):
                raise Broken("till")
            self._deeds.append(deed)
            self._sheets.append(sheet_after(self._sheets[-1], deed))


def start_till(disk, table):
    """Renew the journal on a disk with that of a till with a new sheet, and return this till."""
    sheet = new_sheet(table)
    Journal(disk).renew((sheet_record(sheet),))
    return Till(disk)
