"""Rows: how they move [5], and [1] to [4] and [10] as far as a row tells of them."""

import itertools
import random
import unittest

import helper
from helper import row_of, row_state as state
from leanrow.errors import BadName, NoLeaning, NoThing, Ring, TooMany, Twice
from leanrow.rows import Row


class Puts(unittest.TestCase):
    def test_a_thing_that_is_put_in_stands_last(self):
        row = Row()
        for count, name in enumerate(["m", "a", "z", "abcdefgh", "b"]):
            self.assertIsNone(row.put(name))
            self.assertEqual(row.place(name), count)
        self.assertEqual(row.names(), ["m", "a", "z", "abcdefgh", "b"])
        row.lean("m", "b")
        row.put("c")
        self.assertEqual(row.names()[-1], "c")

    def test_refusals_as_a_web(self):
        names = [helper.name_of(number) for number in range(31)]
        row = row_of(names[:30])
        ahead = state(row)
        for thing in helper.no_texts() + helper.no_names():
            self.assertRaises(BadName, row.put, thing)
        for name in names[:30]:
            self.assertRaises(Twice, row.put, name)
        self.assertRaises(TooMany, row.put, names[30])
        self.assertEqual(state(row), ahead)
        row.take(names[0])
        self.assertIsNone(row.put(names[30]))
        self.assertRaises(TooMany, row.put, names[0])
        self.assertEqual(row.names(), names[1:])


class Takes(unittest.TestCase):
    def test_out_of_the_beginning_the_middle_and_the_end(self):
        names = ["d", "a", "c", "e", "b"]
        for at, gone in enumerate(names):
            row = row_of(names)
            self.assertIsNone(row.take(gone))
            left = names[:at] + names[at + 1:]
            self.assertEqual(row.names(), left)
            self.assertEqual([row.place(name) for name in left], [0, 1, 2, 3])
            self.assertRaises(NoThing, row.place, gone)
            self.assertRaises(NoThing, row.take, gone)
            row.put(gone)
            self.assertEqual(row.names(), left + [gone])

    def test_behind_moves(self):
        row = row_of("abcde", [("a", "d")])
        self.assertEqual(row.names(), list("dbcae"))
        row.take("d")
        self.assertEqual((row.names(), row.leanings()), (list("bcae"), []))
        row.take("e")
        row.take("c")
        self.assertEqual(row.names(), list("ba"))

    def test_leanings_go_along_and_come_not_back(self):
        row = row_of("abc", [("c", "b"), ("b", "a"), ("c", "a")])
        row.take("b")
        self.assertEqual(row.leanings(), [("c", "a")])
        row.put("b")
        self.assertEqual(row.leanings(), [("c", "a")])
        self.assertEqual(row.lean("a", "b"), ["b", "a", "c"])


class Moves(unittest.TestCase):
    def test_nothing_moves_where_the_other_one_stands_ahead(self):
        row = row_of("abcd")
        for name, other in [("b", "a"), ("d", "a"), ("d", "c"), ("c", "a")]:
            self.assertEqual(row.lean(name, other), [])
            self.assertEqual(row.names(), list("abcd"))
        self.assertEqual(row.leanings(), [("b", "a"), ("d", "a"), ("d", "c"), ("c", "a")])

    def test_two_neighbours(self):
        row = row_of("ab")
        self.assertEqual(row.lean("a", "b"), ["b", "a"])
        self.assertEqual((row.names(), row.place("b"), row.place("a")), (["b", "a"], 0, 1))

    def test_others_stay_where_they_are(self):
        row = row_of("vabcdw")
        self.assertEqual(row.lean("a", "d"), ["d", "a"])
        self.assertEqual(row.names(), list("vdbcaw"))

    def test_leaders_and_followers(self):
        row = row_of("abcdef", [("c", "a"), ("f", "d")])
        self.assertEqual(row.lean("a", "f"), ["d", "f", "a", "c"])
        self.assertEqual(row.names(), list("dbfaec"))

    def test_leaders_and_followers_by_long_chains(self):
        row = row_of("abcdefgh", [("c", "a"), ("e", "c"), ("h", "f"), ("f", "d"), ("g", "e")])
        self.assertEqual(row.lean("a", "h"), list("dfhaceg"))
        self.assertEqual(row.names(), list("dbfhaceg"))

    def test_leaders_and_followers_stand_as_they_stood(self):
        # Neither as they were put, nor as they were told, nor by their letters.
        row = row_of("aqpxnmz", [("m", "a"), ("p", "a"), ("z", "x"), ("z", "q")])
        self.assertEqual(row.lean("a", "z"), ["q", "x", "z", "a", "p", "m"])
        self.assertEqual(row.names(), ["q", "x", "z", "a", "n", "p", "m"])

    def test_what_stands_out_of_the_two_stays(self):
        # x is led to from b but ahead of a, and y leans on a but stands behind b.
        row = row_of("xaby", [("b", "x"), ("y", "a")])
        self.assertEqual(row.lean("a", "b"), ["b", "a"])
        self.assertEqual(row.names(), list("xbay"))

    def test_a_loosened_leaning_moves_nothing_and_leads_no_more(self):
        row = row_of("abc", [("c", "b")])
        self.assertIsNone(row.loosen("c", "b"))
        self.assertEqual(row.names(), list("abc"))
        self.assertEqual(row.lean("a", "c"), ["c", "a"])
        self.assertEqual(row.names(), list("cba"))

    def test_a_refused_leaning_moves_nothing(self):
        told = [("a", "d"), ("b", "e"), ("e", "c")]
        for name, other in itertools.product("abcde", repeat=2):
            row = row_of("abcde", told)
            ahead = state(row)
            if helper.outcome(row.lean, name, other)[0] == "refused":
                self.assertEqual(state(row), ahead)
            else:
                self.assertEqual(row.leanings(), told + [(name, other)])

    def test_drawn_rows_against_a_plain_filling_anew(self):
        for seed in range(60):
            row, plain = Row(), helper.PlainRow()
            for deed in helper.drawn_deeds(seed, 160, 3 + seed % 29):
                self.do_both(row, plain, deed)

    def do_both(self, row, plain, deed):
        stood = row.names()
        told, plain_told = helper.do(row, deed), helper.do(plain, deed)[1]
        if type(plain_told) is str:
            self.assertEqual(told[:2], ("refused", plain_told), deed)
        else:
            self.assertEqual(told, ("told", plain_told), deed)
        self.assertEqual(row.names(), plain.row, deed)
        self.assertEqual(row.leanings(), plain.told, deed)
        places = [row.place(name) for name in plain.row]
        self.assertEqual(places, list(range(len(plain.row))), deed)
        self.assertTrue(all(type(place) is int for place in places))
        self.assertTrue(all(row.place(name) > row.place(other) for name, other in plain.told), deed)
        if deed[0] == "lean" and told[0] == "told":
            moved = {name for name in stood if stood.index(name) != row.place(name)}
            self.assertEqual(sorted(told[1]), sorted(moved), deed)

    def test_rows_of_thirty(self):
        for seed in range(12):
            names, leanings = helper.drawn_leanings(seed, 30, (0.05, 0.1, 0.3)[seed % 3])
            row, plain = Row(), helper.PlainRow()
            for name in names:
                self.do_both(row, plain, ("put", name))
            for name, other in leanings[:120]:
                self.do_both(row, plain, ("lean", name, other))
            for name in random.Random(seed).sample(names, 5) + [row.names()[0], row.names()[-1]]:
                self.do_both(row, plain, ("take", name))

    def test_the_whole_row_turned(self):
        names = [helper.name_of(number) for number in range(30)]
        row = row_of(names)
        for name, other in zip(names, names[1:]):
            row.lean(name, other)
        self.assertEqual(row.names(), names[::-1])


class Rings(unittest.TestCase):
    def test_the_ring_is_told_and_nothing_moves(self):
        row = row_of("abcd", [("a", "b"), ("b", "c"), ("c", "d"), ("b", "d")])
        ahead = state(row)
        for name, other, ring in [("a", "a", "a"), ("b", "a", "ba"), ("c", "a", "cab"), ("d", "a", "dab")]:
            with self.assertRaises(Ring) as caught:
                row.lean(name, other)
            self.assertEqual(caught.exception.ring, list(ring))
            self.assertEqual(state(row), ahead)


class ToldAndHandedIn(unittest.TestCase):
    def test_what_is_no_thing_is_refused_so_by_each(self):
        row = row_of("ab", [("a", "b")])
        ahead = state(row)
        for at, thing in enumerate(helper.no_texts() + helper.no_names() + ["c", "ba"]):
            with self.subTest(at=at):
                self.assertRaises(NoThing, row.take, thing)
                self.assertRaises(NoThing, row.place, thing)
                for asked in (row.lean, row.loosen):
                    self.assertRaises(NoThing, asked, thing, "a")
                    self.assertRaises(NoThing, asked, "a", thing)
                    self.assertRaises(NoThing, asked, thing, thing)
                self.assertEqual(state(row), ahead)

    def test_told_already_and_no_leaning(self):
        row = row_of("abc", [("a", "b")])
        ahead = state(row)
        self.assertRaises(Twice, row.lean, "a", "b")
        for name, other in [("b", "a"), ("a", "c"), ("a", "a")]:
            self.assertRaises(NoLeaning, row.loosen, name, other)
        self.assertEqual(state(row), ahead)

    def test_what_was_told_is_the_askers_own(self):
        row = row_of("abc")
        moved = row.lean("a", "c")
        names, leanings = row.names(), row.leanings()
        moved.reverse()
        names.clear()
        leanings.append(("b", "a"))
        self.assertEqual((row.names(), row.leanings()), (list("cba"), [("a", "c")]))
        self.assertEqual(row.lean("b", "a"), ["a", "b"])
        self.assertEqual(row.names(), list("cab"))

    def test_nothing_done_later_changes_what_was_told(self):
        row = row_of("abcd")
        moved = row.lean("a", "c")
        still = row.lean("d", "b")
        names, leanings = row.names(), row.leanings()
        row.lean("b", "a")
        row.loosen("a", "c")
        row.take("c")
        row.put("e")
        self.assertEqual((moved, still), (["c", "a"], []))
        self.assertEqual((names, leanings), (list("cbad"), [("a", "c"), ("d", "b")]))

    def test_an_empty_list_that_was_told_is_the_askers_own(self):
        row = row_of("abcd")
        row.lean("b", "a").append("x")
        self.assertEqual(row.lean("c", "a"), [])
        Row().names().append("x")
        self.assertEqual(Row().names(), [])

    def test_two_rows_share_nothing(self):
        first, second = Row(), Row()
        first.put("a")
        self.assertEqual(second.names(), [])
        self.assertRaises(NoThing, second.place, "a")


class TheSameEachTime(unittest.TestCase):
    def test_two_rows_to_which_the_same_was_told(self):
        for seed in range(20):
            first, second = Row(), Row()
            for deed in helper.drawn_deeds(seed, 200, 6 + seed):
                self.assertEqual(helper.do(first, deed), helper.do(second, deed))
                self.assertEqual(state(first), state(second))
            for name, other in itertools.product(first.names(), repeat=2):
                told = helper.outcome(first.lean, name, other)
                self.assertEqual(helper.outcome(second.lean, name, other), told)
                if told[0] == "refused":
                    self.assertEqual(helper.outcome(first.lean, name, other), told)


if __name__ == "__main__":
    unittest.main()
