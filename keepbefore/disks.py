"""A disk whose writes are pending until it is synced."""

from keepbefore.checks import is_number_from
from keepbefore.errors import InvalidCell, InvalidKept, InvalidSize

MOST_CELLS = 64


class Disk:
    """Cells that are read and written; what is not synced can be lost."""

    def __init__(self, cells, *, content=0):
        if not is_number_from(cells, 1, MOST_CELLS):
            raise InvalidSize("a disk has 1 to 64 cells")
        self._contents = [content] * cells
        self._lasting = [content] * cells
        self._pending = []
        self._reads = 0
        self._writes = 0
        self._syncs = 0

    @classmethod
    def holding(cls, contents):
        """A disk on which these contents are, without a write that would count."""
        disk = cls(len(contents))
        disk._contents = list(contents)
        disk._lasting = list(contents)
        return disk

    def read(self, cell):
        self._check_cell(cell)
        self._reads += 1
        return self._contents[cell]

    def write(self, cell, content):
        self._check_cell(cell)
        self._writes += 1
        self._contents[cell] = content
        self._pending.append((cell, content))

    def sync(self):
        self._syncs += 1
        self._lasting = list(self._contents)
        self._pending = []

    def fail(self, kept):
        if not are_kept(kept, len(self._pending)):
            raise InvalidKept("not a tuple of ascending numbers of pending writes")
        for number in kept:
            cell, content = self._pending[number]
            self._lasting[cell] = content
        self._contents = list(self._lasting)
        self._pending = []

    @property
    def contents(self):
        return tuple(self._contents)

    @property
    def lasting(self):
        return tuple(self._lasting)

    @property
    def pending(self):
        return list(self._pending)

    @property
    def counts(self):
        return (self._reads, self._writes, self._syncs)

    def _check_cell(self, cell):
        if not is_number_from(cell, 0, len(self._contents) - 1):
            raise InvalidCell("not the number of a cell")


def are_kept(kept, many):
    """Whether this is a tuple of ascending numbers of so many pending writes."""
    if not isinstance(kept, tuple):
        return False
    least = 0
    for number in kept:
        if not is_number_from(number, least, many - 1):
            return False
        least = number + 1
    return True
