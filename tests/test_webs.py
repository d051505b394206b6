"""Webs: names [2], leanings and chains [3], rings [4], what is told and handed in [1], the same each time [10]."""

import itertools
import random
import unittest

import helper
from leanrow.errors import BadName, NoLeaning, NoThing, Ring, TooMany, Twice
from leanrow.webs import Web


def state(web):
    return web.things(), web.leanings()


def web_of(names, leanings=()):
    return helper.filled(Web(), names, leanings)


class Names(unittest.TestCase):
    def test_names_of_one_to_eight_letters(self):
        web = Web()
        names = ["abcdefgh"[:count] for count in range(1, 9)] + ["z", "zzzzzzzz", "qwertyui"]
        for name in names:
            self.assertIsNone(web.put(name))
        self.assertEqual(web.things(), names)

    def test_each_letter_is_a_name(self):
        web = web_of(helper.ALPHABET)
        self.assertEqual(web.things(), list(helper.ALPHABET))

    def test_texts_that_are_no_names(self):
        web = web_of("ab", [("a", "b")])
        for text in helper.no_names():
            with self.subTest(text=ascii(text)):
                self.assertRaises(BadName, web.put, text)
                self.assertEqual(state(web), (["a", "b"], [("a", "b")]))

    def test_things_of_other_kinds_are_no_names(self):
        web = web_of("ab", [("a", "b")])
        for at, thing in enumerate(helper.no_texts()):
            with self.subTest(at=at):
                self.assertRaises(BadName, web.put, thing)
                self.assertEqual(state(web), (["a", "b"], [("a", "b")]))

    def test_what_is_no_name_is_refused_so_in_a_full_web_too(self):
        web = web_of([helper.name_of(number) for number in range(30)])
        for thing in ["", "A", None, ["aa"], "abcdefghi"]:
            self.assertRaises(BadName, web.put, thing)

    def test_no_two_of_one_name(self):
        web = web_of(["ab", "abc"])
        self.assertRaises(Twice, web.put, "ab")
        self.assertRaises(Twice, web.put, "abc")
        self.assertIsNone(web.put("a"))
        self.assertEqual(web.things(), ["ab", "abc", "a"])

    def test_thirty_things_and_no_more(self):
        names = [helper.name_of(number) for number in range(31)]
        web = web_of(names[:30])
        self.assertEqual(len(web.things()), 30)
        self.assertRaises(TooMany, web.put, names[30])
        self.assertEqual(web.things(), names[:30])
        web.take(names[7])
        self.assertIsNone(web.put(names[30]))
        self.assertRaises(TooMany, web.put, names[7])
        self.assertEqual(web.things(), names[:7] + names[8:])

    def test_a_name_that_is_there_is_twice_in_a_full_web_too(self):
        names = [helper.name_of(number) for number in range(30)]
        web = web_of(names)
        for name in names:
            self.assertRaises(Twice, web.put, name)

    def test_a_name_put_in_anew_stands_last_and_leans_on_nothing(self):
        web = web_of("abc", [("a", "b"), ("b", "c")])
        web.take("b")
        self.assertRaises(NoThing, web.take, "b")
        web.put("b")
        self.assertEqual(state(web), (["a", "c", "b"], []))
        self.assertIsNone(web.chain("a", "b"))
        web.lean("c", "b")
        self.assertEqual(web.leanings(), [("c", "b")])


class Leanings(unittest.TestCase):
    def test_who_leans_on_whom(self):
        web = web_of("abc", [("a", "b"), ("b", "c")])
        self.assertIs(web.leans("a", "b"), True)
        self.assertIs(web.leans("b", "c"), True)
        for name, other in [("a", "c"), ("b", "a"), ("c", "a"), ("c", "b"), ("a", "a")]:
            self.assertIs(web.leans(name, other), False)

    def test_leanings_as_they_were_told(self):
        told = [("c", "a"), ("b", "a"), ("d", "b"), ("c", "b"), ("d", "a")]
        for order in itertools.permutations(told):
            self.assertEqual(web_of("abcd", order).leanings(), list(order))

    def test_a_leaning_loosened_and_told_anew_is_the_last(self):
        web = web_of("abc", [("a", "b"), ("a", "c"), ("b", "c")])
        self.assertIsNone(web.loosen("a", "b"))
        self.assertEqual(web.leanings(), [("a", "c"), ("b", "c")])
        self.assertIs(web.leans("a", "b"), False)
        self.assertRaises(NoLeaning, web.loosen, "a", "b")
        web.lean("a", "b")
        self.assertEqual(web.leanings(), [("a", "c"), ("b", "c"), ("a", "b")])

    def test_a_loosened_leaning_may_be_turned(self):
        web = web_of("ab", [("a", "b")])
        web.loosen("a", "b")
        web.lean("b", "a")
        self.assertEqual(web.leanings(), [("b", "a")])

    def test_told_already(self):
        web = web_of("abc", [("a", "b"), ("b", "c")])
        self.assertRaises(Twice, web.lean, "a", "b")
        self.assertEqual(web.leanings(), [("a", "b"), ("b", "c")])
        self.assertIsNone(web.lean("a", "c"))

    def test_no_leaning(self):
        web = web_of("abc", [("a", "b"), ("b", "c")])
        for name, other in [("b", "a"), ("a", "c"), ("c", "a"), ("a", "a"), ("b", "b")]:
            self.assertRaises(NoLeaning, web.loosen, name, other)
        self.assertEqual(web.leanings(), [("a", "b"), ("b", "c")])

    def test_a_thing_taken_out_takes_its_leanings_along(self):
        told = [("a", "b"), ("c", "b"), ("a", "c"), ("b", "d"), ("c", "d")]
        for gone in "abcd":
            web = web_of("abcd", told)
            self.assertIsNone(web.take(gone))
            self.assertEqual(web.things(), [name for name in "abcd" if name != gone])
            self.assertEqual(web.leanings(), [pair for pair in told if gone not in pair])

    def test_a_name_within_another_one_is_left_alone(self):
        web = web_of(["ab", "a", "b", "abc"], [("ab", "abc"), ("a", "ab"), ("a", "b")])
        web.take("a")
        self.assertEqual(state(web), (["ab", "b", "abc"], [("ab", "abc")]))

    def test_drawn_deeds_in_many_orders(self):
        for seed in range(30):
            web, plain = Web(), helper.PlainRow()
            for deed in helper.drawn_deeds(seed, 250, 4 + seed):
                web_told, plain_told = helper.do(web, deed), helper.do(plain, deed)[1]
                if type(plain_told) is str:
                    self.assertEqual(web_told[:2], ("refused", plain_told), deed)
                else:
                    self.assertEqual(web_told, ("told", None), deed)
                self.assertEqual(state(web), (plain.put_in, plain.told))
            for name, other in itertools.product(plain.row, repeat=2):
                self.assertIs(web.leans(name, other), (name, other) in plain.told)


class Chains(unittest.TestCase):
    def test_a_thing_to_itself(self):
        web = web_of("abc", [("a", "b")])
        for name in "abc":
            self.assertEqual(web.chain(name, name), [name])

    def test_along_leanings_and_not_against_them(self):
        web = web_of("abcd", [("a", "b"), ("b", "c")])
        self.assertEqual(web.chain("a", "b"), ["a", "b"])
        self.assertEqual(web.chain("a", "c"), ["a", "b", "c"])
        for name, other in [("b", "a"), ("c", "a"), ("c", "b"), ("a", "d"), ("d", "a")]:
            self.assertIsNone(web.chain(name, other))

    def test_no_longer_than_any(self):
        web = web_of("abcde", [("a", "b"), ("b", "c"), ("c", "d"), ("d", "e")])
        self.assertEqual(web.chain("a", "e"), list("abcde"))
        web.lean("b", "d")
        self.assertEqual(web.chain("a", "e"), list("abde"))
        web.lean("a", "e")
        self.assertEqual(web.chain("a", "e"), list("ae"))
        web.loosen("a", "e")
        web.loosen("d", "e")
        self.assertIsNone(web.chain("a", "e"))
        web.take("b")
        self.assertIsNone(web.chain("a", "c"))

    def test_one_of_several(self):
        web = web_of("abcd", [("a", "b"), ("a", "c"), ("b", "d"), ("c", "d")])
        self.assertIn(web.chain("a", "d"), [["a", "b", "d"], ["a", "c", "d"]])

    def test_as_long_as_thirty(self):
        names = [helper.name_of(number) for number in range(30)]
        web = web_of(names, list(zip(names, names[1:])))
        self.assertEqual(web.chain(names[0], names[29]), names)

    def test_small_drawn_webs_against_trying_each_way(self):
        for seed in range(40):
            names, leanings = helper.drawn_leanings(seed, 2 + seed % 7, 0.2 + seed % 4 * 0.2)
            web = web_of(names, leanings)
            for name, other in itertools.product(names, repeat=2):
                tried = [helper.chains_of(leanings, name, other, count) for count in range(1, len(names) + 1)]
                least = next((ways for ways in tried if ways), [None])
                self.assertIn(web.chain(name, other), least)

    def test_drawn_webs_against_a_slow_search(self):
        for seed in range(24):
            names, leanings = helper.drawn_leanings(seed, 10 + seed % 21, (0.05, 0.1, 0.2, 0.5)[seed % 4])
            web = web_of(names, leanings)
            for name, other in itertools.product(names, repeat=2):
                least = helper.shortest_count(names, leanings, name, other)
                told = web.chain(name, other)
                if least is None:
                    self.assertIsNone(told)
                else:
                    self.assertTrue(helper.is_chain(leanings, told, name, other), (told, name, other))
                    self.assertEqual(len(told), least)

    def test_chains_behind_drawn_deeds(self):
        for seed in range(12):
            web, plain = Web(), helper.PlainRow()
            for at, deed in enumerate(helper.drawn_deeds(seed, 200, 12)):
                helper.do(web, deed)
                helper.do(plain, deed)
                if at % 20 == 19:
                    led = helper.led_pairs(plain.row, plain.told)
                    for name, other in itertools.product(plain.row, repeat=2):
                        told = web.chain(name, other)
                        self.assertEqual(told is not None, (name, other) in led)
                        if told is not None:
                            self.assertTrue(helper.is_chain(plain.told, told, name, other))


class Rings(unittest.TestCase):
    def ring_of(self, web, name, other):
        ahead = state(web)
        with self.assertRaises(Ring) as caught:
            web.lean(name, other)
        self.assertEqual(state(web), ahead)
        self.assertIs(type(caught.exception.ring), list)
        return caught.exception.ring

    def test_a_thing_on_itself(self):
        web = web_of("abc", [("a", "b"), ("b", "c")])
        for name in "abc":
            self.assertEqual(self.ring_of(web, name, name), [name])

    def test_rings_of_two(self):
        web = web_of("abc", [("a", "b"), ("b", "c")])
        self.assertEqual(self.ring_of(web, "b", "a"), ["b", "a"])
        self.assertEqual(self.ring_of(web, "c", "b"), ["c", "b"])

    def test_rings_of_three_and_more(self):
        names = [helper.name_of(number) for number in range(30)]
        web = web_of(names, list(zip(names, names[1:])))
        for count in range(2, 31):
            self.assertEqual(self.ring_of(web, names[count - 1], names[0]), [names[count - 1]] + names[:count - 1])

    def test_no_longer_than_it_has_to_be(self):
        web = web_of("abcde", [("a", "b"), ("b", "c"), ("c", "d"), ("d", "e"), ("b", "d")])
        self.assertEqual(self.ring_of(web, "e", "a"), list("eabd"))
        web.lean("a", "e")
        self.assertEqual(self.ring_of(web, "e", "a"), list("ea"))
        web.loosen("a", "e")
        self.assertEqual(self.ring_of(web, "e", "a"), list("eabd"))
        web.loosen("b", "d")
        self.assertEqual(self.ring_of(web, "e", "a"), list("eabcd"))

    def test_no_ring_where_the_way_is_gone(self):
        web = web_of("abc", [("a", "b"), ("b", "c")])
        web.take("b")
        self.assertIsNone(web.lean("c", "a"))

    def test_each_leaning_of_drawn_webs(self):
        for seed in range(24):
            names, leanings = helper.drawn_leanings(seed, 3 + seed, (0.1, 0.2, 0.6)[seed % 3])
            web = web_of(names, leanings)
            for name, other in itertools.product(names, repeat=2):
                least = helper.shortest_count(names, leanings, other, name)
                if least is not None:
                    ring = self.ring_of(web, name, other)
                    self.assertEqual(ring[0], name)
                    self.assertEqual(len(ring), least)
                    self.assertEqual(len(set(ring)), len(ring))
                    counted = leanings + [(name, other)]
                    self.assertTrue(all(pair in counted for pair in zip(ring, ring[1:] + ring[:1])))
                elif (name, other) not in leanings:
                    self.assertIsNone(web.lean(name, other))
                    web.loosen(name, other)


class ToldAndHandedIn(unittest.TestCase):
    def odd_things(self):
        return helper.no_texts() + helper.no_names() + ["c", "ba", "abcdefgh"]

    def test_what_is_no_thing_is_refused_so_by_each(self):
        web = web_of("ab", [("a", "b")])
        for at, thing in enumerate(self.odd_things()):
            with self.subTest(at=at):
                self.assertRaises(NoThing, web.take, thing)
                for asked in (web.lean, web.loosen, web.leans, web.chain):
                    self.assertRaises(NoThing, asked, thing, "a")
                    self.assertRaises(NoThing, asked, "a", thing)
                    self.assertRaises(NoThing, asked, thing, thing)
                self.assertEqual(state(web), (["a", "b"], [("a", "b")]))

    def test_in_a_web_without_things_nothing_is_there(self):
        web = Web()
        for thing in self.odd_things():
            self.assertRaises(NoThing, web.take, thing)
            self.assertRaises(NoThing, web.chain, thing, thing)

    def test_what_was_told_is_the_askers_own(self):
        web = web_of("abc", [("a", "b"), ("b", "c")])
        things, leanings, chain = web.things(), web.leanings(), web.chain("a", "c")
        with self.assertRaises(Ring) as caught:
            web.lean("c", "a")
        ring = caught.exception.ring
        things.append("x")
        leanings.clear()
        chain.reverse()
        ring[0] = "x"
        self.assertEqual(state(web), (["a", "b", "c"], [("a", "b"), ("b", "c")]))
        self.assertEqual(web.chain("a", "c"), ["a", "b", "c"])
        with self.assertRaises(Ring) as caught:
            web.lean("c", "a")
        self.assertEqual(caught.exception.ring, ["c", "a", "b"])

    def test_nothing_done_later_changes_what_was_told(self):
        web = web_of("abc", [("a", "b"), ("b", "c")])
        things, leanings, chain = web.things(), web.leanings(), web.chain("a", "c")
        with self.assertRaises(Ring) as caught:
            web.lean("c", "a")
        web.put("d")
        web.lean("a", "d")
        web.loosen("b", "c")
        web.take("a")
        web.chain("b", "c")
        self.assertEqual(things, ["a", "b", "c"])
        self.assertEqual(leanings, [("a", "b"), ("b", "c")])
        self.assertEqual(chain, ["a", "b", "c"])
        self.assertEqual(caught.exception.ring, ["c", "a", "b"])

    def test_two_webs_share_nothing(self):
        first, second = Web(), Web()
        first.put("a")
        self.assertEqual(second.things(), [])
        self.assertRaises(NoThing, second.take, "a")

    def test_asking_changes_nothing(self):
        web = web_of("abc", [("a", "b"), ("b", "c")])
        ahead = state(web)
        for name, other in itertools.product("abc", repeat=2):
            web.leans(name, other)
            web.chain(name, other)
        self.assertEqual(state(web), ahead)


TELL_ALL = """
import itertools
import helper
from leanrow.webs import Web
for seed in range(6):
    web = Web()
    for deed in helper.drawn_deeds(seed, 150, 15):
        print(helper.do(web, deed))
    print([web.chain(*pair) for pair in itertools.product(web.things(), repeat=2)])
"""


class TheSameEachTime(unittest.TestCase):
    def tell_all(self, web):
        pairs = list(itertools.product(sorted(web.things()), repeat=2))
        chains = [web.chain(name, other) for name, other in pairs]
        rings = [helper.outcome(web.lean, *pair) for pair in pairs if web.chain(pair[1], pair[0]) is not None]
        return chains, rings

    def test_two_webs_to_which_the_same_was_told(self):
        for seed in range(20):
            first, second = Web(), Web()
            deeds = helper.drawn_deeds(seed, 150, 8 + seed)
            self.assertEqual([helper.do(first, deed) for deed in deeds], [helper.do(second, deed) for deed in deeds])
            told = self.tell_all(first)
            self.assertEqual(self.tell_all(second), told)
            self.assertEqual(self.tell_all(first), told)
            self.assertEqual(self.tell_all(second), told)

    def test_questions_and_refusals_between_change_no_answer(self):
        for seed in range(10):
            names, leanings = helper.drawn_leanings(seed, 12, 0.4)
            plain = web_of(names, leanings)
            asked = web_of(names)
            for name, other in leanings:
                helper.outcome(asked.lean, other, other)
                helper.outcome(asked.put, name)
                asked.lean(name, other)
                helper.outcome(asked.lean, name, other)
                helper.outcome(asked.lean, other, name)
                asked.chain(name, other)
            self.assertEqual(self.tell_all(asked), self.tell_all(plain))

    def test_webs_with_the_same_leanings_tell_the_same_whatever_came_first(self):
        for seed in range(10):
            names, leanings = helper.drawn_leanings(seed, 12, 0.4)
            told = self.tell_all(web_of(names, leanings))
            drawer = random.Random(seed)
            for _ in range(4):
                drawer.shuffle(names)
                drawer.shuffle(leanings)
                self.assertEqual(self.tell_all(web_of(names, leanings)), told)

    def test_the_same_in_each_run_of_python(self):
        told = helper.printed_in_runs(TELL_ALL)
        self.assertGreater(len(told[0]), 1000)
        self.assertEqual(len(set(told)), 1)


if __name__ == "__main__":
    unittest.main()
