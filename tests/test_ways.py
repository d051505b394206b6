"""Ways: the first row and what is a right row [7], ways to other right rows [8], what is told and handed in [1]."""

import itertools
import random
import unittest

import helper
from helper import row_of, row_state
from leanrow.errors import BadRow
from leanrow.rows import Row
from leanrow.ways import first_row, is_right, way_to


def plain_going(names, leanings):
    """The first row, at each place the least name that may stand there."""
    row = []
    while len(row) < len(names):
        row.append(min(name for name in names if name not in row
                       and not [y for x, y in leanings if x == name and y not in row]))
    return row


def no_lists(names):
    """Things that are no list, most of them of a right row's names."""
    return [tuple(names), {name: True for name in names}, dict(enumerate(names)), set(names), frozenset(names),
            "".join(names), ",".join(names), iter(names), (name for name in names), names.__iter__, len(names),
            "".join(names).encode()] + [thing for thing in helper.no_texts() if type(thing) is not list]


def wrong_lists(names):
    """Lists that tell no right row, each close to one that does."""
    lists = [names + ["zzzzzzzz"], ["zzzzzzzz"] + names, names + [None], names + [[]], [names], [tuple(names)],
             names + names, [name.upper() for name in names], ["zzzzzzzz"] * len(names), names + [""]]
    for at in range(len(names)):
        ahead, behind = names[:at], names[at + 1:]
        lists += [ahead + behind, ahead + names[at:at + 1] * 2 + behind]
        lists += [ahead + [thing] + behind for thing in helper.no_texts() + ["", "zzzzzzzz", names[at] + "\n"]]
        lists += [ahead + [name] + behind for name in names if name != names[at]]
        lists += [ahead + [[names[at]]] + behind, ahead + [names[at].encode()] + behind]
    return lists


class FirstRow(unittest.TestCase):
    def test_without_things_and_without_leanings(self):
        self.assertEqual(first_row(Row()), [])
        self.assertEqual(first_row(row_of(["b", "abc", "z", "ab"])), ["ab", "abc", "b", "z"])

    def test_the_least_name_that_may_stand_there(self):
        self.assertEqual(first_row(row_of("abcd", [("a", "d")])), list("bcda"))
        self.assertEqual(first_row(row_of("abcd", [("a", "b"), ("b", "d")])), list("cdba"))
        # Neither layer by layer, nor each thing right behind the last one that it leans on.
        self.assertEqual(first_row(row_of("abcdz", [("b", "a"), ("c", "z")])), list("abdzc"))
        self.assertEqual(first_row(row_of("abcde", [("a", "c"), ("d", "b")])), list("bcade"))

    def test_a_right_row_that_begins_so_is_least_of_all(self):
        for seed in range(40):
            names, leanings = helper.drawn_leanings(seed, seed % 7, (0.1, 0.3, 0.6, 0)[seed % 4])
            self.assertEqual(first_row(row_of(names, leanings)), helper.right_rows(names, leanings)[0])

    def test_rows_drawn_by_many_deeds(self):
        for row, names, leanings in helper.drawn_rows(60):
            ahead = row_state(row)
            first = first_row(row)
            self.assertEqual(first, plain_going(names, leanings))
            self.assertIs(type(first), list)
            self.assertIs(is_right(row, first), True)
            self.assertEqual(row_state(row), ahead)

    def test_rows_of_thirty(self):
        for seed in range(12):
            names, leanings = helper.drawn_leanings(seed, 30, (0.02, 0.1, 0.3, 1)[seed % 4])
            self.assertEqual(first_row(row_of(names, leanings)), plain_going(names, leanings))

    def test_long_chains(self):
        names, leanings = helper.long_chain(30)
        self.assertEqual(first_row(row_of(names, leanings)), names[::-1])


class IsRight(unittest.TestCase):
    def test_without_things(self):
        self.assertIs(is_right(Row(), []), True)
        for thing in no_lists([]) + [["a"], [None], [[]]]:
            self.assertIs(is_right(Row(), thing), False)

    def test_each_order_of_few_things(self):
        for seed in range(24):
            names, leanings = helper.drawn_leanings(seed, seed % 6, (0.2, 0.4, 0.8)[seed % 3])
            row = row_of(names, leanings)
            for told in itertools.permutations(names):
                self.assertIs(is_right(row, list(told)), helper.is_right_list(names, leanings, told))

    def test_two_names_exchanged(self):
        for seed in range(20):
            names, leanings = helper.drawn_leanings(seed, 6 + seed, 0.15)
            row = row_of(names, leanings)
            self.assertIs(is_right(row, row.names()), True)
            for at, other in itertools.combinations(range(len(names)), 2):
                told = row.names()
                told[at], told[other] = told[other], told[at]
                self.assertIs(is_right(row, told), helper.is_right_list(names, leanings, told))

    def test_lists_that_are_none(self):
        for leanings in ([], [("a", "c"), ("c", "b")]):
            row = row_of(["a", "b", "c"], leanings)
            ahead = row_state(row)
            for at, thing in enumerate(wrong_lists(row.names())):
                with self.subTest(at=at):
                    self.assertIs(is_right(row, thing), False)
            self.assertEqual(row_state(row), ahead)

    def test_things_of_other_kinds(self):
        row = row_of(["b", "a"])
        for at, thing in enumerate(no_lists(["b", "a"])):
            with self.subTest(at=at):
                self.assertIs(is_right(row, thing), False)

    def test_a_list_that_holds_itself(self):
        thing = ["a"]
        thing.append(thing)
        self.assertIs(is_right(row_of("ab"), thing), False)
        self.assertRaises(BadRow, way_to, row_of("ab"), thing)

    def test_what_is_asked_of_is_asked_as_the_row_is_now(self):
        row = row_of("abc", [("c", "b")])
        self.assertIs(is_right(row, list("cba")), False)
        row.loosen("c", "b")
        self.assertIs(is_right(row, list("cba")), True)
        row.take("b")
        self.assertIs(is_right(row, list("cba")), False)
        self.assertIs(is_right(row, list("ca")), True)


class WayTo(unittest.TestCase):
    def check(self, row, leanings, names):
        """A way is walked pair by pair, and its pairs are counted."""
        ahead, handed = row_state(row), list(names)
        way = way_to(row, names)
        self.assertIs(type(way), list)
        standing = row.names()
        for pair in way:
            self.assertIs(type(pair), tuple)
            at = standing.index(pair[0])
            self.assertEqual(tuple(standing[at:at + 2]), pair)
            standing[at:at + 2] = [pair[1], pair[0]]
            self.assertTrue(helper.is_right_list(names, leanings, standing), (pair, standing))
        self.assertEqual(standing, names)
        pairs = itertools.combinations(row.names(), 2)
        turned = [pair for pair in pairs if names.index(pair[0]) > names.index(pair[1])]
        self.assertEqual(len(way), len(turned))
        self.assertEqual((row_state(row), names), (ahead, handed))

    def test_to_the_row_itself(self):
        for row in (Row(), row_of("a"), row_of("dbca"), row_of("abc", [("a", "c")])):
            self.assertEqual(way_to(row, row.names()), [])

    def test_two_things(self):
        self.assertEqual(way_to(row_of("ab"), ["b", "a"]), [("a", "b")])

    def test_three_things(self):
        self.assertEqual(way_to(row_of("abc"), list("bca")), [("a", "b"), ("a", "c")])
        self.assertEqual(way_to(row_of("abc"), list("cab")), [("b", "c"), ("a", "c")])
        self.assertIn(way_to(row_of("abc"), list("cba")),
                      [[("a", "b"), ("a", "c"), ("b", "c")], [("b", "c"), ("a", "c"), ("a", "b")]])

    def test_from_each_right_row_to_each(self):
        for seed in range(16):
            names, leanings = helper.drawn_leanings(seed, seed % 6, (0.1, 0.25, 0.5)[seed % 3])
            rights = helper.right_rows(names, leanings)
            for begin, end in itertools.product(rights[:12], rights[-12:]):
                self.check(row_of(begin, leanings), leanings, end)

    def test_to_drawn_right_rows(self):
        for seed, (row, names, leanings) in enumerate(helper.drawn_rows(60)):
            self.check(row, leanings, first_row(row))
            self.check(row, leanings, helper.drawn_right_row(seed, names, leanings))

    def test_a_whole_row_of_thirty_turned(self):
        names, _ = helper.long_chain(30)
        self.check(row_of(names), [], names[::-1])
        self.assertEqual(len(way_to(row_of(names), names[::-1])), 435)

    def test_what_is_no_right_row(self):
        for leanings in ([], [("a", "c"), ("c", "b")]):
            row = row_of(["a", "b", "c"], leanings)
            ahead = row_state(row)
            for at, thing in enumerate(wrong_lists(row.names()) + no_lists(row.names())):
                with self.subTest(at=at):
                    self.assertRaises(BadRow, way_to, row, thing)
                    self.assertEqual(row_state(row), ahead)
        for thing in no_lists([]) + [["a"], [None]]:
            self.assertRaises(BadRow, way_to, Row(), thing)

    def test_rows_in_which_a_thing_stands_ahead_of_what_it_leans_on(self):
        for seed in range(16):
            names, leanings = helper.drawn_leanings(seed, 1 + seed % 6, 0.3)
            row = row_of(names, leanings)
            for told in itertools.permutations(names):
                if helper.is_right_list(names, leanings, told):
                    self.assertIs(type(way_to(row, list(told))), list)
                else:
                    self.assertRaises(BadRow, way_to, row, list(told))


class ToldAndHandedIn(unittest.TestCase):
    def test_what_was_told_is_the_askers_own(self):
        row = row_of("abcd", [("d", "b")])
        ahead = row_state(row)
        first, way = first_row(row), way_to(row, list("bdca"))
        told = list(first), list(way)
        first.reverse()
        way.clear()
        self.assertEqual((first_row(row), way_to(row, list("bdca"))), told)
        self.assertEqual(row_state(row), ahead)

    def test_what_was_told_of_a_row_without_things_too(self):
        first_row(Row()).append("x")
        way_to(Row(), []).append("x")
        self.assertEqual((first_row(Row()), way_to(Row(), [])), ([], []))

    def test_what_is_handed_in_is_neither_changed_nor_kept(self):
        row = row_of("abc")
        handed = list("cba")
        way = way_to(row, handed)
        told = list(way)
        self.assertIs(is_right(row, handed), True)
        self.assertEqual(handed, list("cba"))
        handed.clear()
        self.assertEqual((way, row.names()), (told, list("abc")))
        self.assertEqual(way_to(row, list("cba")), told)

    def test_a_refused_list_stays(self):
        row = row_of("abc", [("a", "b")])
        handed = list("abc")
        self.assertRaises(BadRow, way_to, row, handed)
        self.assertIs(is_right(row, handed), False)
        self.assertEqual(handed, list("abc"))

    def test_nothing_done_later_changes_what_was_told(self):
        row = row_of("abcd")
        first, way = first_row(row), way_to(row, list("bacd"))
        row.lean("a", "d")
        row.take("b")
        way_to(row, first_row(row))
        self.assertEqual((first, way), (list("abcd"), [("a", "b")]))

    def test_the_same_asked_again_in_a_drawn_order(self):
        drawer = random.Random(5)
        rows = [(row, helper.drawn_right_row(at, names, leanings))
                for at, (row, names, leanings) in enumerate(helper.drawn_rows(12))]
        told = [(first_row(row), way_to(row, other)) for row, other in rows]
        for at in [drawer.randrange(len(rows)) for _ in range(60)]:
            row, other = rows[at]
            self.assertEqual((first_row(row), way_to(row, other)), told[at])


if __name__ == "__main__":
    unittest.main()
