"""Logs: deeds done, taken back and done again [9], with refusals and moves as of a row [1] to [5]."""

import itertools
import random
import unittest

import helper
from leanrow.errors import BadName, NoLeaning, NothingDone, NoThing, Ring, TooMany, Twice
from leanrow.logs import Log
from leanrow.rows import Row


def state(log):
    return log.names(), log.leanings()


def log_of(names, leanings=()):
    return helper.filled(Log(), names, leanings)


def done_by(deeds):
    """A log with these deeds done, and how it stood ahead of the first one and behind each of them."""
    log = Log()
    stood = [state(log)]
    for deed in deeds:
        if helper.do(log, deed)[0] == "told":
            stood.append(state(log))
    return log, stood


class Deeds(unittest.TestCase):
    def test_without_things_and_deeds(self):
        log = Log()
        self.assertEqual((state(log), log.many()), (([], []), (0, 0)))
        for _ in range(2):
            self.assertRaises(NothingDone, log.back)
            self.assertRaises(NothingDone, log.again)
        self.assertEqual((state(log), log.many()), (([], []), (0, 0)))

    def test_each_deed_tells_as_of_a_row_and_counts(self):
        log = Log()
        for count, name in enumerate("abcd"):
            self.assertEqual(log.many(), (count, 0))
            self.assertIsNone(log.put(name))
        self.assertEqual(log.lean("a", "c"), ["c", "a"])
        self.assertEqual(log.lean("d", "a"), [])
        self.assertEqual(log.many(), (6, 0))
        self.assertEqual(state(log), (list("cbad"), [("a", "c"), ("d", "a")]))
        self.assertIsNone(log.loosen("a", "c"))
        self.assertIsNone(log.take("a"))
        self.assertEqual(log.many(), (8, 0))
        self.assertEqual(state(log), (list("cbd"), []))

    def test_each_kind_of_deed_taken_back_and_done_again(self):
        told = [("a", "d"), ("d", "b"), ("c", "b"), ("a", "c")]
        for word, *handed in [("put", "e"), ("take", "a"), ("take", "b"), ("take", "c"), ("take", "d"),
                              ("lean", "c", "a"), ("lean", "b", "e"), ("loosen", "a", "d"), ("loosen", "c", "b")]:
            with self.subTest(deed=(word, *handed)):
                log = log_of("abcd", told)
                if handed[-1] == "e" and word == "lean":
                    log.put("e")
                ahead, count = state(log), log.many()[0]
                outcome = helper.outcome(getattr(log, word), *handed)
                behind = state(log)
                if outcome[0] == "refused":
                    self.assertEqual((behind, log.many()), (ahead, (count, 0)))
                    continue
                self.assertNotEqual(behind, ahead)
                for _ in range(3):
                    self.assertEqual(log.many(), (count + 1, 0))
                    self.assertIsNone(log.back())
                    self.assertEqual((state(log), log.many()), (ahead, (count, 1)))
                    self.assertIsNone(log.again())
                    self.assertEqual((state(log), log.many()), (behind, (count + 1, 0)))

    def test_a_thing_taken_out_comes_back_to_its_place_with_its_leanings_in_their_order(self):
        told = [("e", "c"), ("c", "a"), ("e", "b"), ("d", "c"), ("e", "a"), ("d", "a")]
        log = log_of("abcde", told)
        for gone in "abcde":
            log.take(gone)
            self.assertEqual(log.leanings(), [pair for pair in told if gone not in pair])
            log.back()
            self.assertEqual(state(log), (list("abcde"), told))

    def test_a_leaning_loosened_comes_back_to_its_place_among_the_leanings(self):
        told = [("e", "c"), ("c", "a"), ("e", "b"), ("d", "c")]
        log = log_of("abcde", told)
        for pair in told:
            log.loosen(*pair)
            self.assertEqual(log.leanings(), [other for other in told if other != pair])
            log.back()
            self.assertEqual(log.leanings(), told)

    def test_what_moved_is_taken_back_to_the_very_places(self):
        log = log_of("abcdefgh", [("c", "a"), ("e", "c"), ("h", "f"), ("f", "d"), ("g", "e")])
        ahead = state(log)
        self.assertEqual(log.lean("a", "h"), list("dfhaceg"))
        self.assertEqual(log.names(), list("dbfhaceg"))
        log.back()
        self.assertEqual(state(log), ahead)
        self.assertEqual(log.names(), list("abcdefgh"))
        log.again()
        self.assertEqual(log.names(), list("dbfhaceg"))

    def test_a_leaning_that_moved_nothing_is_a_deed_too(self):
        log = log_of("ab")
        self.assertEqual(log.lean("b", "a"), [])
        self.assertEqual(log.many(), (3, 0))
        log.back()
        self.assertEqual(state(log), (["a", "b"], []))

    def test_the_last_one_first(self):
        log = log_of("abc")
        for left in ("ab", "a", ""):
            log.back()
            self.assertEqual(log.names(), list(left))
        self.assertEqual(log.many(), (0, 3))
        self.assertRaises(NothingDone, log.back)
        self.assertEqual((log.many(), log.names()), ((0, 3), []))
        for more in ("a", "ab", "abc"):
            log.again()
            self.assertEqual(log.names(), list(more))
        self.assertRaises(NothingDone, log.again)
        self.assertEqual((log.many(), log.names()), ((3, 0), list("abc")))


class WhatCouldBeDoneAgain(unittest.TestCase):
    def taken_back(self):
        log = log_of("abcd", [("a", "b"), ("b", "c"), ("d", "a")])
        log.back()
        log.put("e")
        log.back()
        self.assertEqual(log.many(), (6, 1))
        return log

    def test_a_deed_done_anew_ends_it(self):
        for word, *handed in [("put", "f"), ("put", "e"), ("take", "d"), ("lean", "d", "c"), ("lean", "c", "d"),
                              ("loosen", "a", "b")]:
            log = self.taken_back()
            getattr(log, word)(*handed)
            behind = state(log)
            self.assertEqual(log.many(), (7, 0))
            self.assertRaises(NothingDone, log.again)
            self.assertEqual(state(log), behind)
            log.back()
            self.assertEqual(log.many(), (6, 1))
            log.again()
            self.assertEqual(state(log), behind)

    def test_a_refused_deed_keeps_it(self):
        for kind, word, *handed in [(BadName, "put", "E"), (BadName, "put", None), (Twice, "put", "a"),
                                    (NoThing, "take", "e"), (NoThing, "take", 1), (NoThing, "lean", "a", "e"),
                                    (Twice, "lean", "a", "b"), (Ring, "lean", "c", "a"), (Ring, "lean", "d", "d"),
                                    (NoThing, "loosen", "e", "a"), (NoLeaning, "loosen", "b", "a")]:
            log = self.taken_back()
            ahead = state(log)
            self.assertRaises(kind, getattr(log, word), *handed)
            self.assertEqual((state(log), log.many()), (ahead, (6, 1)))
            log.again()
            self.assertEqual((log.names()[-1], log.many()), ("e", (7, 0)))
            log.back()
            self.assertEqual(state(log), ahead)

    def test_nothing_to_take_back_keeps_it(self):
        log = log_of("ab")
        log.back()
        log.back()
        self.assertRaises(NothingDone, log.back)
        log.again()
        log.again()
        self.assertEqual((log.names(), log.many()), (["a", "b"], (2, 0)))

    def test_asking_keeps_it(self):
        log = self.taken_back()
        for _ in range(2):
            log.names()
            log.leanings()
            log.many()
        self.assertEqual(log.many(), (6, 1))


class DrawnDeeds(unittest.TestCase):
    def test_to_the_beginning_and_to_the_end(self):
        for seed in range(30):
            log, stood = done_by(helper.drawn_deeds(seed, 120, 3 + seed))
            last = len(stood) - 1
            for at in range(last - 1, -1, -1):
                log.back()
                self.assertEqual((state(log), log.many()), (stood[at], (at, last - at)))
            self.assertEqual(state(log), ([], []))
            for at in range(1, last + 1):
                log.again()
                self.assertEqual((state(log), log.many()), (stood[at], (at, last - at)))

    def test_in_part(self):
        for seed in range(20):
            log, stood = done_by(helper.drawn_deeds(seed, 100, 4 + seed))
            at, last = len(stood) - 1, len(stood) - 1
            drawer = random.Random(seed)
            for _ in range(300):
                if drawer.random() < (0.7, 0.3)[at < last // 2]:
                    self.assertEqual(helper.outcome(log.back)[0], "told" if at > 0 else "refused")
                    at = max(at - 1, 0)
                else:
                    self.assertEqual(helper.outcome(log.again)[0], "told" if at < last else "refused")
                    at = min(at + 1, last)
                self.assertEqual((state(log), log.many()), (stood[at], (at, last - at)))

    def test_against_a_plain_log(self):
        for seed in range(24):
            log, plain = Log(), helper.PlainLog()
            for deed in self.mixed(seed):
                told, plain_told = helper.do(log, deed), plain.do(deed)
                if type(plain_told) is str:
                    self.assertEqual(told[:2], ("refused", plain_told), deed)
                else:
                    self.assertEqual(told, ("told", plain_told), deed)
                row = plain.row()
                self.assertEqual(state(log), (row.row, row.told), deed)
                self.assertEqual(log.many(), (len(plain.deeds), len(plain.gone)), deed)

    def mixed(self, seed):
        drawer = random.Random(seed)
        for deed in helper.drawn_deeds(seed, 60, 4 + seed // 2):
            yield deed
            if drawer.random() < 0.35:
                yield from [("back",)] * drawer.randrange(5) + [("again",)] * drawer.randrange(5)

    def test_each_deed_and_each_refusal_as_of_a_row(self):
        for seed in range(20):
            log, row = Log(), Row()
            for deed in helper.drawn_deeds(seed, 200, 5 + seed):
                self.assertEqual(helper.do(log, deed), helper.do(row, deed))
                self.assertEqual(state(log), (row.names(), row.leanings()))
                if log.many()[0] > 0:
                    log.back()
                    log.again()

    def test_each_leaning_behind_deeds_taken_back_as_of_a_row_without_them(self):
        for seed in range(12):
            names, leanings = helper.drawn_leanings(seed, 9, 0.3)
            log, row = log_of(names, leanings), helper.row_of(names, leanings)
            for deed in helper.drawn_deeds(seed, 40, 20):
                helper.do(log, deed)
            while log.many()[0] > len(names) + len(leanings):
                log.back()
            for pair in itertools.product(names, repeat=2):
                told = helper.outcome(row.lean, *pair)
                self.assertEqual(helper.outcome(log.lean, *pair), told)
                if told[0] == "told":
                    log.back()
                    row = helper.row_of(names, leanings)


class ToldAndHandedIn(unittest.TestCase):
    def test_what_is_no_name_and_what_is_no_thing(self):
        log = log_of("ab", [("a", "b")])
        log.put("c")
        log.back()
        ahead = state(log)
        for at, thing in enumerate(helper.no_texts() + helper.no_names()):
            with self.subTest(at=at):
                self.assertRaises(BadName, log.put, thing)
                self.assertRaises(NoThing, log.take, thing)
                for deed in (log.lean, log.loosen):
                    self.assertRaises(NoThing, deed, thing, "a")
                    self.assertRaises(NoThing, deed, "a", thing)
                    self.assertRaises(NoThing, deed, thing, thing)
                self.assertEqual((state(log), log.many()), (ahead, (3, 1)))

    def test_at_most_thirty_things(self):
        names = [helper.name_of(number) for number in range(31)]
        log = log_of(names[:30])
        self.assertRaises(TooMany, log.put, names[30])
        self.assertRaises(Twice, log.put, names[0])
        self.assertEqual((log.names(), log.many()), (names[:30], (30, 0)))
        log.back()
        self.assertIsNone(log.put(names[30]))
        self.assertRaises(TooMany, log.put, names[29])

    def test_the_ring_is_told(self):
        log = log_of("abcd", [("a", "b"), ("b", "c"), ("c", "d"), ("b", "d")])
        for name, ring in [("a", "a"), ("b", "ba"), ("c", "cab"), ("d", "dab")]:
            for _ in range(2):
                with self.assertRaises(Ring) as caught:
                    log.lean(name, "a")
                self.assertEqual(caught.exception.ring, list(ring))
                caught.exception.ring.clear()
        self.assertEqual(log.many(), (8, 0))

    def test_what_was_told_is_the_askers_own(self):
        log = log_of("abc")
        moved = log.lean("a", "c")
        names, leanings = log.names(), log.leanings()
        moved.clear()
        names.reverse()
        leanings.append(("b", "a"))
        self.assertEqual(state(log), (list("cba"), [("a", "c")]))
        log.back()
        log.names().clear()
        log.leanings().append(("a", "b"))
        self.assertEqual(state(log), (list("abc"), []))
        log.again()
        self.assertEqual(state(log), (list("cba"), [("a", "c")]))

    def test_nothing_done_later_changes_what_was_told(self):
        log = log_of("abc")
        moved = log.lean("a", "c")
        names, leanings, many = log.names(), log.leanings(), log.many()
        log.lean("b", "a")
        log.take("c")
        for _ in range(3):
            log.back()
        log.again()
        log.put("d")
        self.assertEqual((moved, names, leanings, many), (["c", "a"], list("cba"), [("a", "c")], (4, 0)))

    def test_two_logs_share_nothing(self):
        first, second = Log(), Log()
        first.put("a")
        self.assertEqual((second.names(), second.many()), ([], (0, 0)))
        first.back()
        self.assertRaises(NothingDone, second.again)


if __name__ == "__main__":
    unittest.main()
