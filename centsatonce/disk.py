"""Disks: octets that last only once they are flushed."""

from centsatonce.checks import are_numbers_below
from centsatonce.errors import Refused

OCTETS = 256
MOST_CELLS = 20000


class Disk:
    """An octet at each place; cells is what it began with."""

    def __init__(self, cells):
        if not are_numbers_below(cells, OCTETS) or not 1 <= len(cells) <= MOST_CELLS:
            raise Refused("cells")
        self.cells = cells
        self._now = list(cells)
        self._log = []

    def look(self, at):
        """Return the octet at a place."""
        return self._now[at]

    def put(self, at, octet):
        """Put an octet at a place."""
        self._now[at] = octet
        self._log.append((at, octet))

    def flush(self):
        """Make all that was put last."""
        self._log.append(None)

    def events(self):
        """Return all puts, (at, octet), and flushes, None, in their sequence."""
        return tuple(self._log)


def pending_places(events):
    """Return the lot of the places of puts behind the last flush."""
    pending = {}
    for event in events:
        if event is None:
            pending = {}
        else:
            pending[event[0]] = True
    return tuple(sorted(list(pending)))


def cut_cells(cells, events, octets):
    """Return what a cut leaves of a disk, with octets for the pending places, ascending."""
    left = list(cells)
    for event in events:
        if event is not None:
            left[event[0]] = event[1]
    for at, octet in zip(pending_places(events), octets):
        left[at] = octet
    return tuple(left)
