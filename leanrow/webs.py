"""Webs: what leans on what."""

from leanrow.errors import BadName, NoLeaning, NoThing, Ring, TooMany, Twice

LETTERS = "abcdefghijklmnopqrstuvwxyz"
LONGEST_NAME = 8
MOST_THINGS = 30


def is_name(thing):
    """Tell of anything whether it is a name."""
    if type(thing) is not str or len(thing) < 1 or len(thing) > LONGEST_NAME:
        return False
    return all(sign in LETTERS for sign in thing)


def steps_by_letters(names, pairs):
    """For each name the names to which the pairs lead from it, by letters."""
    steps = {name: [] for name in names}
    # By letters, so that what is found rests on the pairs alone, not on when each of them was told.
    for name, other in sorted(pairs):
        steps[name].append(other)
    return steps


def walk_from(steps, start):
    """All names to which the steps lead from start, nearest first, each with the name from which it was reached."""
    reached_from = {start: None}
    edge = [start]
    while edge:
        found = []
        for name in edge:
            for other in steps[name]:
                if other not in reached_from:
                    reached_from[other] = name
                    found.append(other)
        edge = found
    return reached_from


class Web:
    """What leans on what, without any ring."""

    def __init__(self):
        self._things = []
        self._leanings = []

    def put(self, name):
        """Put a thing in."""
        if not is_name(name):
            raise BadName("a name is one to eight small letters a to z")
        if name in self._things:
            raise Twice("a thing of that name is there already")
        if len(self._things) >= MOST_THINGS:
            raise TooMany("no room for one more thing")
        self._things.append(name)

    def take(self, name):
        """Take a thing out, and with it each leaning that it is part of."""
        self.need(name)
        self._things.remove(name)
        self._leanings = [pair for pair in self._leanings if name not in pair]

    def lean(self, name, other):
        """Let name lean on other."""
        if self.leans(name, other):
            raise Twice("it leans on that one already")
        way_back = self.chain(other, name)
        if way_back is not None:
            raise Ring([name] + way_back[:-1])
        self._leanings.append((name, other))

    def loosen(self, name, other):
        """Let name lean on other no more."""
        if not self.leans(name, other):
            raise NoLeaning("it does not lean on that one")
        self._leanings.remove((name, other))

    def things(self):
        """The names, as they were put."""
        return list(self._things)

    def leanings(self):
        """The pairs (NAME, OTHER), as they were told."""
        return list(self._leanings)

    def leans(self, name, other):
        """Tell whether name itself leans on other."""
        self.need(name)
        self.need(other)
        return (name, other) in self._leanings

    def chain(self, name, other):
        """A chain from name to other, no longer than any, or None."""
        self.need(name)
        self.need(other)
        reached_from = walk_from(steps_by_letters(self._things, self._leanings), name)
        if other not in reached_from:
            return None
        backwards = [other]
        while backwards[-1] != name:
            backwards.append(reached_from[backwards[-1]])
        return backwards[::-1]

    def twin(self):
        """Another web, to which all that holds here was told likewise."""
        alike = Web()
        alike._things = list(self._things)
        alike._leanings = list(self._leanings)
        return alike

    def need(self, name):
        """Refuse whatever is not the name of a thing that is there."""
        # What is no text is asked nothing more: it may be of any kind, and answer in any way.
        if type(name) is not str or name not in self._things:
            raise NoThing("no thing of that name is there")

    def led_to(self, name):
        """The things to which a chain leads from name, itself among them."""
        self.need(name)
        return list(walk_from(steps_by_letters(self._things, self._leanings), name))

    def led_from(self, name):
        """The things from which a chain leads to name, itself among them."""
        self.need(name)
        turned = [(other, leaner) for leaner, other in self._leanings]
        return list(walk_from(steps_by_letters(self._things, turned), name))
