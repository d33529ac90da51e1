"""Journals: records on a disk that a cut leaves as they were or as they were to be.

The first cell tells by its parity which of two equal areas counts. An area has records one
behind another: a mark, two octets of length, the octets. An even mark, or the end of the
area, ends them. A cut may leave any octet at a place that is not flushed. So each change is
put where nothing is read, flushed, and then made to count by one octet of which only the
parity is read: whatever a cut leaves of it, it tells the old or the new.
"""

from centsatonce.errors import Broken, Refused

OCTETS = 256
HEAD = 3


class Journal:
    """The records that lie on a disk; nothing else puts anything there."""

    def __init__(self, disk):
        self.disk = disk
        self._size = (len(disk.cells) - 1) // 2
        self._found = []
        self._marks = []
        self._read_all()

    def records(self):
        """Return the tuple of all records."""
        return tuple(self._found)

    def write(self, record):
        """Add a record behind the others."""
        mark = self._end()
        if mark + weight_of([record]) > self._stop():
            raise Refused("room")
        self._put_record(mark, record)
        self._put_mark(mark + weight_of([record]), 0, self._stop())
        self.disk.flush()
        self._commit(mark, 1)
        self._found.append(record)
        self._marks.append(mark)

    def drop(self, many):
        """Take the last records away, so many at once."""
        if many > len(self._found):
            raise Refused("records")
        if many > 0:
            left = len(self._found) - many
            self._commit(self._marks[left], 0)
            self._found = self._found[:left]
            self._marks = self._marks[:left]

    def renew(self, records):
        """Put a tuple of records in the place of all."""
        if weight_of(records) > self._size:
            raise Refused("room")
        area = 1 - self._area()
        marks = []
        at = self._start(area)
        for record in records:
            marks.append(at)
            self._put_record(at, record)
            self.disk.put(at, 1)
            at += weight_of([record])
        self._put_mark(at, 0, self._start(area) + self._size)
        self.disk.flush()
        self._commit(0, area)
        self._found = list(records)
        self._marks = marks

    def _area(self):
        """Return the number of the area that counts."""
        return self.disk.look(0) & 1

    def _start(self, area):
        """Return the place of the first mark of an area."""
        return 1 + area * self._size

    def _stop(self):
        """Return the place behind the area that counts."""
        return self._start(self._area()) + self._size

    def _end(self):
        """Return the place behind the last record."""
        return self._start(self._area()) + weight_of(self._found)

    def _put_record(self, mark, record):
        """Put the length and the octets of a record behind the place of its mark."""
        high, low = divmod(len(record), OCTETS)
        for at, octet in enumerate((high, low) + record):
            self.disk.put(mark + 1 + at, octet)

    def _put_mark(self, at, octet, stop):
        """Put a mark, if it does not lie behind an area."""
        if at < stop:
            self.disk.put(at, octet)

    def _commit(self, at, octet):
        """Make the one octet count that tells the old from the new."""
        self.disk.put(at, octet)
        self.disk.flush()

    def _read_all(self):
        """Find the records that lie in the area that counts."""
        at = self._start(self._area())
        stop = self._stop()
        while at < stop and self.disk.look(at) & 1:
            record = self._read_record(at, stop)
            self._found.append(record)
            self._marks.append(at)
            at += weight_of([record])

    def _read_record(self, mark, stop):
        """Return the record at a mark."""
        start = mark + HEAD
        if start > stop:
            raise Broken("journal")
        end = start + self.disk.look(mark + 1) * OCTETS + self.disk.look(mark + 2)
        if end > stop:
            raise Broken("journal")
        return tuple([self.disk.look(at) for at in range(start, end)])


def weight_of(records):
    """Return how many cells records take in an area."""
    return sum([HEAD + len(record) for record in records])
