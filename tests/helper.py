"""What the tests share: a plain second telling of the document, odd things to hand in, drawn deeds."""

import itertools
import os
import random
import subprocess
import sys

from leanrow import errors
from leanrow.rows import Row

ALPHABET = "abcdefghijklmnopqrstuvwxyz"


class Mute:
    """A thing that can be asked nothing: neither its text, nor its hash, nor whether it is equal to another."""

    def __repr__(self):
        raise RuntimeError("asked for its text")

    __str__ = __hash__ = __bool__ = __len__ = __iter__ = __repr__

    def __eq__(self, other):
        raise RuntimeError("asked whether it is equal")

    __ne__ = __lt__ = __gt__ = __contains__ = __getitem__ = __eq__


def nested(depth):
    thing = []
    for _ in range(depth):
        thing = [thing]
    return thing


def no_texts():
    """Things of other kinds than a text."""
    return [0, 1, -1, 30, 10 ** 5000, True, False, None, 1.5, float("nan"), b"", b"a", bytearray(b"a"),
            [], ["a"], ["a", "b"], ("a",), (), {}, {"a": 1}, {"a"}, frozenset("a"), object(), str, len,
            nested(100000), Mute(), Mute]


def no_names():
    """Texts that are no name: none, too long, or with a sign that is no small letter a to z."""
    return ["", "abcdefghi", "a" * 9, "z" * 1000, "A", "Ab", "aB", "abcdefgH", "1", "a1", "1a", "_", "a_b", "a-b",
            " ", " a", "a ", "a b", "\n", "a\n", "abcdefg\n", "abcdefgh\n", "\na", "a\nb", "a\r", "a\r\n", "a\t",
            "a\x00", "`", "{", "@", "[", "a.", "a,b", "\xe9", "a\xe9", "\xdf", "\xaa", "\u0430", "\uff41", "\u0131",
            "\U0001d41a", "\ud800"]


def name_of(number):
    """Unlike names for unlike numbers up to 26 * 26."""
    return ALPHABET[number // 26] + ALPHABET[number % 26]


def outcome(deed, *handed):
    """What a deed tells: its answer, or its refusal, with the ring where there is one."""
    try:
        return "told", deed(*handed)
    except errors.LeanError as refused:
        return "refused", type(refused).__name__, getattr(refused, "ring", None)


def led_pairs(things, leanings):
    """All pairs (X, Y) where a chain leads from X to Y: one more leaning at a time, until nothing comes new."""
    pairs = {(thing, thing) for thing in things} | set(leanings)
    while True:
        more = {(x, z) for x, y in pairs for w, z in leanings if y == w} - pairs
        if not more:
            return pairs
        pairs |= more


def chains_of(leanings, name, other, count):
    """All chains of so many things from name to other, by trying each way."""
    if count == 1:
        return [[name]] if name == other else []
    return [[name] + rest for x, y in leanings if x == name for rest in chains_of(leanings, y, other, count - 1)]


def shortest_count(things, leanings, name, other):
    """How many things a chain from name to other has at least; None where there is none."""
    reached = {name}
    for count in range(1, len(things) + 1):
        if other in reached:
            return count
        reached = reached | {y for x, y in leanings if x in reached}
    return None


def is_chain(leanings, row, name, other):
    return (type(row) is list and row[0] == name and row[-1] == other
            and all(pair in leanings for pair in zip(row, row[1:])))


class PlainRow:
    """The row as the document tells it, filled anew place by place, slowly; refusals are told by their class names."""

    def __init__(self):
        self.row = []
        self.told = []
        self.put_in = []

    def put(self, name):
        if name in self.row:
            return "Twice"
        if len(self.row) == 30:
            return "TooMany"
        self.row = self.row + [name]
        self.put_in = self.put_in + [name]
        return None

    def take(self, name):
        if name not in self.row:
            return "NoThing"
        self.row = [thing for thing in self.row if thing != name]
        self.put_in = [thing for thing in self.put_in if thing != name]
        self.told = [pair for pair in self.told if pair[0] != name and pair[1] != name]
        return None

    def loosen(self, name, other):
        if name not in self.row or other not in self.row:
            return "NoThing"
        if (name, other) not in self.told:
            return "NoLeaning"
        self.told = [pair for pair in self.told if pair != (name, other)]
        return None

    def lean(self, name, other):
        if name not in self.row or other not in self.row:
            return "NoThing"
        if (name, other) in self.told:
            return "Twice"
        led = led_pairs(self.row, self.told)
        if (other, name) in led:
            return "Ring"
        self.told = self.told + [(name, other)]
        place_a, place_b = self.row.index(name), self.row.index(other)
        if place_b < place_a:
            return []
        span = range(place_a, place_b + 1)
        lead = [place for place in span if (other, self.row[place]) in led]
        follow = [place for place in span if (self.row[place], name) in led]
        moved = [self.row[place] for place in lead] + [self.row[place] for place in follow]
        anew = list(moved)
        self.row = [anew.pop(0) if place in lead or place in follow else thing
                    for place, thing in enumerate(self.row)]
        return moved


class PlainLog:
    """The log as the document tells it: its deeds by their words, all done anew from none whenever it is asked."""

    def __init__(self):
        self.deeds = []
        self.gone = []

    def row(self):
        row = PlainRow()
        for word, *handed in self.deeds:
            getattr(row, word)(*handed)
        return row

    def do(self, deed):
        word, *handed = deed
        if word == "back" or word == "again":
            source, target = (self.deeds, self.gone) if word == "back" else (self.gone, self.deeds)
            if not source:
                return "NothingDone"
            target.append(source.pop())
            return None
        told = getattr(self.row(), word)(*handed)
        if type(told) is not str:
            self.deeds, self.gone = self.deeds + [deed], []
        return told


def plain_levels(names, leanings):
    """The level of each thing: raised wherever it is too low, one leaning at a time, until none is."""
    levels = {name: 0 for name in names}
    while True:
        low = [(x, y) for x, y in leanings if levels[x] <= levels[y]]
        if not low:
            return levels
        levels[low[0][0]] = levels[low[0][1]] + 1


def is_right_list(names, leanings, told):
    """Whether a list of texts tells each name once, each behind all that it leans on."""
    return (sorted(told) == sorted(names)
            and all(other in told[:at] for at, name in enumerate(told) for x, other in leanings if x == name))


def right_rows(names, leanings):
    """All right rows, by letters, by trying each order."""
    return [list(told) for told in itertools.permutations(sorted(names)) if is_right_list(names, leanings, told)]


def drawn_right_row(seed, names, leanings):
    """A right row, drawn place by place."""
    drawer = random.Random(seed)
    told = []
    while len(told) < len(names):
        told.append(drawer.choice([name for name in names if name not in told
                                   and all(other in told for x, other in leanings if x == name)]))
    return told


def drawn_rows(count):
    """Rows behind many drawn deeds, each with its names and leanings as a plain row tells them."""
    for seed in range(count):
        row, plain = Row(), PlainRow()
        for deed in drawn_deeds(seed, 40 + seed * 7, 3 + seed % 29):
            do(row, deed)
            do(plain, deed)
        yield row, plain.row, plain.told


def long_chain(count):
    """Names, and the leanings of each of them on the next one."""
    names = [name_of(number * 7 % 676) for number in range(count)]
    return names, list(zip(names, names[1:]))


def row_of(names, leanings=()):
    return filled(Row(), names, leanings)


def row_state(row):
    return row.names(), row.leanings(), [row.place(name) for name in row.names()]


def drawn_deeds(seed, count, many):
    """Deeds by their words, over so many names; more leanings than loosened ones, more puts than takes."""
    drawer = random.Random(seed)
    names = [name_of(number) for number in drawer.sample(range(26 * 26), many)]
    words = ["put"] * 5 + ["take"] + ["lean"] * 20 + ["loosen"] * 3
    deeds = [("put", name) for name in names[:many * 2 // 3]]
    while len(deeds) < count:
        word = drawer.choice(words)
        handed = [drawer.choice(names)] if word in ("put", "take") else [drawer.choice(names), drawer.choice(names)]
        deeds.append((word, *handed))
    return deeds


def do(target, deed):
    word, *handed = deed
    return outcome(getattr(target, word), *handed)


def drawn_leanings(seed, many, density):
    """Names, and leanings among them that close no ring, in a drawn order."""
    drawer = random.Random(seed)
    names = [name_of(number) for number in drawer.sample(range(26 * 26), many)]
    pairs = [(names[i], names[j]) for i in range(many) for j in range(i) if drawer.random() < density]
    drawer.shuffle(pairs)
    put_order = drawer.sample(names, many)
    return put_order, pairs


def filled(target, names, leanings):
    """The web or row, with these things and leanings told to it."""
    for name in names:
        target.put(name)
    for name, other in leanings:
        target.lean(name, other)
    return target


def printed_in_runs(script):
    """What a script prints in runs of Python that hash texts each in another way."""
    here = os.path.dirname(os.path.abspath(__file__))
    path = os.pathsep.join([here, os.path.dirname(here)])
    return [subprocess.run([sys.executable, "-c", script], check=True, stdout=subprocess.PIPE,
                           env={**os.environ, "PYTHONPATH": path, "PYTHONHASHSEED": seed}).stdout
            for seed in ("1", "2", "77")]
