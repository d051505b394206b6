"""Layers: levels, layers and a chain as long as there are layers [6], what is told and handed in [1]."""

import unittest

import helper
from helper import row_of, row_state
from leanrow.errors import NoThing
from leanrow.layers import layers_of, level_of, longest_of
from leanrow.rows import Row

LEANINGS = [("c", "a"), ("c", "b"), ("d", "c"), ("e", "a"), ("f", "d"), ("f", "e")]


class Layers(unittest.TestCase):
    def check(self, row, names, leanings):
        """All that is told of a row, against the plain reckoning."""
        ahead = row_state(row)
        levels = helper.plain_levels(names, leanings)
        for name in names:
            told = level_of(row, name)
            self.assertEqual((type(told), told), (int, levels[name]), name)
        count = max(levels.values(), default=-1) + 1
        layers = layers_of(row)
        self.assertEqual(layers, [sorted(name for name in names if levels[name] == level) for level in range(count)])
        self.assertTrue(type(layers) is list and all(type(layer) is list for layer in layers))
        chain = longest_of(row)
        self.assertIs(type(chain), list)
        self.assertEqual(len(chain), count)
        if chain:
            self.assertTrue(helper.is_chain(leanings, chain, chain[0], chain[-1]), chain)
            self.assertEqual([levels[name] for name in chain], list(range(count))[::-1])
        self.assertEqual(row_state(row), ahead)

    def test_a_row_without_things(self):
        row = Row()
        self.assertEqual((layers_of(row), longest_of(row)), ([], []))
        row.put("a")
        row.take("a")
        self.assertEqual((layers_of(row), longest_of(row)), ([], []))

    def test_things_that_lean_on_nothing(self):
        row = row_of(["b", "abc", "z", "ab", "c"])
        self.assertEqual(layers_of(row), [["ab", "abc", "b", "c", "z"]])
        self.assertEqual([level_of(row, name) for name in row.names()], [0] * 5)
        self.assertIn(longest_of(row), [["b"], ["abc"], ["z"], ["ab"], ["c"]])
        self.assertEqual(longest_of(row_of(["only"])), ["only"])

    def test_a_plain_row(self):
        row = row_of("fedcba", LEANINGS)
        self.assertEqual([level_of(row, name) for name in "abcdef"], [0, 0, 1, 2, 1, 3])
        self.assertEqual(layers_of(row), [["a", "b"], ["c", "e"], ["d"], ["f"]])
        self.assertIn(longest_of(row), [list("fdca"), list("fdcb")])

    def test_the_greatest_level_counts_and_not_the_least_or_the_last(self):
        leanings = [("d", "a"), ("d", "c"), ("c", "b"), ("b", "a")]
        for told in (leanings, leanings[::-1]):
            row = row_of("abcd", told)
            self.assertEqual(level_of(row, "d"), 3)
            self.assertEqual(longest_of(row), list("dcba"))

    def test_the_longest_chain_is_not_the_one_that_begins_by_letters(self):
        row = row_of("abcdz", [("a", "b"), ("z", "c"), ("c", "d")])
        self.assertEqual(longest_of(row), list("zcd"))
        row.lean("d", "a")
        self.assertEqual(longest_of(row), list("zcdab"))

    def test_a_chain_goes_down_along_leanings_only(self):
        # Of the lower layers the first names by letters lead nowhere.
        row = row_of(["ab", "x", "bb", "y", "z"], [("z", "y"), ("y", "x"), ("bb", "ab")])
        self.assertEqual(layers_of(row), [["ab", "x"], ["bb", "y"], ["z"]])
        self.assertEqual(longest_of(row), ["z", "y", "x"])

    def test_levels_fall_with_what_is_loosened_and_taken_out(self):
        row = row_of("abcdef", LEANINGS)
        row.loosen("d", "c")
        self.assertEqual([level_of(row, name) for name in "abcdef"], [0, 0, 1, 0, 1, 2])
        self.assertEqual(layers_of(row), [["a", "b", "d"], ["c", "e"], ["f"]])
        row.take("a")
        self.assertEqual(layers_of(row), [["b", "d", "e"], ["c", "f"]])
        row.take("b")
        self.assertEqual(layers_of(row), [["c", "d", "e"], ["f"]])
        self.assertIn(longest_of(row), [["f", "d"], ["f", "e"]])

    def test_a_leaning_refused_raises_nothing(self):
        row = row_of("abc", [("a", "b"), ("b", "c")])
        self.assertEqual(helper.outcome(row.lean, "c", "a")[:2], ("refused", "Ring"))
        self.assertEqual(layers_of(row), [["c"], ["b"], ["a"]])

    def test_long_chains(self):
        for count in range(1, 31):
            names, leanings = helper.long_chain(count)
            row = row_of(names, leanings)
            self.assertEqual(longest_of(row), names)
            self.assertEqual(layers_of(row), [[name] for name in names[::-1]])
            self.assertEqual([level_of(row, name) for name in names], list(range(count))[::-1])

    def test_rows_drawn_by_many_deeds(self):
        for row, names, leanings in helper.drawn_rows(60):
            self.check(row, names, leanings)

    def test_rows_of_thirty(self):
        for seed in range(24):
            names, leanings = helper.drawn_leanings(seed, 30, (0.02, 0.05, 0.1, 0.3, 0.7, 1)[seed % 6])
            self.check(row_of(names, leanings), names, leanings)

    def test_no_chain_is_longer(self):
        for seed in range(30):
            names, leanings = helper.drawn_leanings(seed, 1 + seed % 8, 0.15 + seed % 4 * 0.2)
            count = len(longest_of(row_of(names, leanings)))
            chains = [chain for name in names for other in names
                      for chain in helper.chains_of(leanings, name, other, count + 1)]
            self.assertEqual(chains, [])


class ToldAndHandedIn(unittest.TestCase):
    def test_what_is_no_thing_is_refused_so(self):
        row = row_of("abcdef", LEANINGS)
        row.put("gone")
        row.take("gone")
        ahead = row_state(row)
        for at, thing in enumerate(helper.no_texts() + helper.no_names() + ["gone", "ab", "aa", "g", "abcdefgh"]):
            with self.subTest(at=at):
                self.assertRaises(NoThing, level_of, row, thing)
                self.assertRaises(NoThing, level_of, Row(), thing)
        self.assertRaises(NoThing, level_of, Row(), "a")
        self.assertEqual(row_state(row), ahead)

    def test_what_was_told_is_the_askers_own(self):
        row = row_of("abcdef", LEANINGS)
        ahead = row_state(row)
        layers, chain = layers_of(row), longest_of(row)
        told = [list(layer) for layer in layers], list(chain)
        layers[0].append("x")
        layers[1].clear()
        layers.pop()
        chain.reverse()
        self.assertEqual((layers_of(row), longest_of(row)), told)
        self.assertEqual([level_of(row, name) for name in "abcdef"], [0, 0, 1, 2, 1, 3])
        self.assertEqual(row_state(row), ahead)

    def test_what_was_told_of_a_row_without_things_too(self):
        layers_of(Row()).append(["x"])
        longest_of(Row()).append("x")
        self.assertEqual((layers_of(Row()), longest_of(Row())), ([], []))

    def test_nothing_done_later_changes_what_was_told(self):
        row = row_of("abc", [("a", "b")])
        layers, chain = layers_of(row), longest_of(row)
        row.lean("b", "c")
        layers_of(row)
        row.take("b")
        row.put("d")
        longest_of(row)
        self.assertEqual((layers, chain), ([["b", "c"], ["a"]], ["a", "b"]))


if __name__ == "__main__":
    unittest.main()
