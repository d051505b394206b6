"""Logs: deeds upon a row, taken back one by one and done again."""

from leanrow.errors import NothingDone
from leanrow.rows import Row


class Log:
    """Deeds upon a row of its own."""

    def __init__(self):
        # Each deed is done upon a twin, so that no row that is kept ever changes and a refused deed leaves nothing.
        self._row = Row()
        # The row as it stood ahead of each deed that is done, and behind each one that was taken back, next one last.
        self._done = []
        self._undone = []

    def put(self, name):
        """Put a thing in, at the row's end."""
        row = self._row.twin()
        row.put(name)
        self._go_on(row)

    def take(self, name):
        """Take a thing out; what stood behind it moves up."""
        row = self._row.twin()
        row.take(name)
        self._go_on(row)

    def lean(self, name, other):
        """Let name lean on other; a list of those that moved: the leaders, then the followers."""
        row = self._row.twin()
        moved = row.lean(name, other)
        self._go_on(row)
        return moved

    def loosen(self, name, other):
        """Let name lean on other no more; nothing moves."""
        row = self._row.twin()
        row.loosen(name, other)
        self._go_on(row)

    def back(self):
        """Take the last deed back."""
        if not self._done:
            raise NothingDone("no deed can be taken back")
        self._undone.append(self._row)
        self._row = self._done.pop()

    def again(self):
        """Do the deed again that was taken back last."""
        if not self._undone:
            raise NothingDone("no deed can be done again")
        self._done.append(self._row)
        self._row = self._undone.pop()

    def names(self):
        """The names, in the row's order."""
        return self._row.names()

    def leanings(self):
        """The pairs (NAME, OTHER), as they were told."""
        return self._row.leanings()

    def many(self):
        """How many deeds can be taken back, and how many done again."""
        return len(self._done), len(self._undone)

    def _go_on(self, row):
        """Take the row as it stands behind a new deed; what could be done again is ended."""
        self._done.append(self._row)
        self._undone = []
        self._row = row
