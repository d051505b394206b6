"""Rows: things in one row, each behind all that it leans on."""

from leanrow.webs import Web


class Row:
    """Things in one row; how it moves for a new leaning is told."""

    def __init__(self):
        self._web = Web()
        self._names = []

    def put(self, name):
        """Put a thing in, at the row's end."""
        self._web.put(name)
        self._names.append(name)

    def take(self, name):
        """Take a thing out; what stood behind it moves up."""
        self._web.take(name)
        self._names.remove(name)

    def lean(self, name, other):
        """Let name lean on other; a list of those that moved: the leaders, then the followers."""
        self._web.lean(name, other)
        first = self._names.index(name)
        last = self._names.index(other)
        if last < first:
            return []
        led_to = self._web.led_to(other)
        led_from = self._web.led_from(name)
        between = self._names[first:last + 1]
        leaders = [thing for thing in between if thing in led_to]
        followers = [thing for thing in between if thing in led_from]
        moved = leaders + followers
        self._fill_anew(first, moved)
        return moved

    def loosen(self, name, other):
        """Let name lean on other no more; nothing moves."""
        self._web.loosen(name, other)

    def names(self):
        """The names, in the row's order."""
        return list(self._names)

    def place(self, name):
        """Where the thing stands, from 0 on."""
        self._web.need(name)
        return self._names.index(name)

    def leanings(self):
        """The pairs (NAME, OTHER), as they were told."""
        return self._web.leanings()

    def twin(self):
        """Another row, which stands alike and to which all that holds here was told likewise."""
        alike = Row()
        alike._web = self._web.twin()
        alike._names = list(self._names)
        return alike

    def _fill_anew(self, first, moved):
        """Put those that move, in their new order, into the places that they have, from first on."""
        places = [at for at in range(first, len(self._names)) if self._names[at] in moved]
        for at, thing in zip(places, moved):
            self._names[at] = thing
