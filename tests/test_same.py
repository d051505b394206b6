"""The same each time [10], over the whole program: chains, rings, ways, moves and first rows, asked again and again."""

import itertools
import random
import unittest

import helper
from helper import row_of
from leanrow.layers import layers_of, level_of, longest_of
from leanrow.logs import Log
from leanrow.rows import Row
from leanrow.ways import first_row, way_to

TELL_ALL = """
import helper
import test_same
from leanrow.logs import Log
from leanrow.rows import Row
for seed in range(5):
    row, log = Row(), Log()
    for deed in helper.drawn_deeds(seed, 120, 14):
        print(helper.do(row, deed), helper.do(log, deed))
    print(test_same.told_of(row), test_same.refused_by(row), test_same.refused_by(log))
"""


def told_of(row):
    """All that is told of a row without changing it, the ways to some other right rows among it."""
    names, leanings = row.names(), row.leanings()
    others = [first_row(row)] + [helper.drawn_right_row(seed, sorted(names), leanings) for seed in range(4)]
    return ([level_of(row, name) for name in sorted(names)], layers_of(row), longest_of(row), first_row(row),
            [way_to(row, other) for other in others])


def refused_by(target):
    """The refusal, with its ring, of each leaning that a row or a log refuses."""
    leanings = target.leanings()
    led = helper.led_pairs(target.names(), leanings)
    pairs = itertools.product(sorted(target.names()), repeat=2)
    return [helper.outcome(target.lean, *pair) for pair in pairs if pair in leanings or pair[::-1] in led]


class TheSameEachTime(unittest.TestCase):
    def test_two_rows_to_which_the_same_was_told(self):
        for seed in range(16):
            first, second = Row(), Row()
            for deed in helper.drawn_deeds(seed, 150, 6 + seed):
                self.assertEqual(helper.do(first, deed), helper.do(second, deed))
            told, refused = told_of(first), refused_by(first)
            for row in (second, first, second):
                self.assertEqual((told_of(row), refused_by(row)), (told, refused))

    def test_questions_between_change_no_answer(self):
        for seed in range(8):
            plain, asked = Row(), Row()
            for deed in helper.drawn_deeds(seed, 80, 8):
                self.assertEqual(helper.do(asked, deed), helper.do(plain, deed))
                told_of(asked)
                refused_by(asked)
            self.assertEqual((told_of(asked), refused_by(asked)), (told_of(plain), refused_by(plain)))

    def test_two_logs_to_which_the_same_was_told(self):
        for seed in range(16):
            first, second = Log(), Log()
            drawer = random.Random(seed)
            for deed in helper.drawn_deeds(seed, 100, 6 + seed):
                for done in [deed] + [(drawer.choice(["back", "again"]),)] * drawer.randrange(3):
                    self.assertEqual(helper.do(first, done), helper.do(second, done))
                self.assertEqual((first.names(), first.leanings(), first.many()),
                                 (second.names(), second.leanings(), second.many()))
            self.assertEqual(refused_by(first), refused_by(second))
            self.assertEqual(refused_by(first), refused_by(first))

    def test_the_same_leanings_told_in_other_orders(self):
        # The rows may stand otherwise; what rests on the leanings alone is told the same.
        for seed in range(12):
            names, leanings = helper.drawn_leanings(seed, 4 + seed * 2, 0.25)
            row = row_of(names, leanings)
            told, refused = told_of(row)[:4], refused_by(row)
            drawer = random.Random(seed)
            for _ in range(4):
                drawer.shuffle(leanings)
                other = row_of(names, leanings)
                self.assertEqual(other.leanings(), leanings)
                self.assertEqual((told_of(other)[:4], refused_by(other)), (told, refused))

    def test_leanings_loosened_and_told_anew_and_things_put_in_anew(self):
        for seed in range(8):
            names, leanings = helper.drawn_leanings(seed, 10, 0.3)
            row, anew = row_of(names, leanings), row_of(names, leanings)
            for pair in leanings[::2]:
                anew.loosen(*pair)
                anew.lean(*pair)
            anew.take(names[0])
            anew.put(names[0])
            for pair in leanings:
                if names[0] in pair:
                    anew.lean(*pair)
            self.assertEqual((told_of(anew)[:4], refused_by(anew)), (told_of(row)[:4], refused_by(row)))

    def test_the_same_in_each_run_of_python(self):
        told = helper.printed_in_runs(TELL_ALL)
        self.assertGreater(len(told[0]), 1000)
        self.assertEqual(len(set(told)), 1)


if __name__ == "__main__":
    unittest.main()
