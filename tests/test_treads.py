"""Promises [3] and [4]: treads, alike words, rests and least words."""

import itertools
import unittest

from samples import (
    NO_TREADS, NO_WORDS, mixed_word, path_tread, sample_treads, slow_reduced, slow_rest, slow_tread, wide_tread,
    words_up_to,
)
from solvedtreads.errors import NoTread, NoWord
from solvedtreads.treads import alike, is_tread, least_word, rest_word, shows_least, tread_of


class TreadOfTest(unittest.TestCase):
    def test_words(self):
        self.assertEqual(tread_of(""), (("",), ""))
        self.assertEqual(tread_of("a"), (("", "a"), "a"))
        self.assertEqual(tread_of("aAb"), (("", "a", "b"), "b"))
        self.assertEqual(tread_of("abBA"), (("", "a", "ab"), ""))
        self.assertEqual(tread_of("dDaAcCAa"), (("", "A", "a", "c", "d"), ""))
        self.assertEqual(tread_of("abBAAB"), (("", "A", "a", "AB", "ab"), "AB"))

    def test_all_short_ones(self):
        for word in words_up_to(4):
            self.assertEqual(tread_of(word), slow_tread(word))

    def test_long_ones(self):
        for seed in range(10):
            word = mixed_word(seed, 200)
            self.assertEqual(tread_of(word), slow_tread(word))
        self.assertEqual(tread_of("a" * 200), path_tread(200))
        self.assertEqual(len(tread_of("aA" * 100)[0]), 2)

    def test_kinds_of_values(self):
        places, end = tread_of("abBc")
        self.assertIs(type(places), tuple)
        self.assertIs(type(end), str)
        self.assertIs(type(tread_of("abBc")), tuple)


class IsTreadTest(unittest.TestCase):
    def test_treads(self):
        for tread in sample_treads():
            self.assertIs(is_tread(tread), True)
            for end in tread[0]:
                self.assertIs(is_tread((tread[0], end)), True)

    def test_other_things(self):
        for thing in NO_TREADS:
            with self.subTest(thing=thing):
                self.assertIs(is_tread(thing), False)

    def test_numbers_of_places(self):
        for number in (1, 2, 200, 201):
            self.assertIs(is_tread(path_tread(number - 1)), True)
            self.assertIs(is_tread(wide_tread(number)), True)
        for number in (202, 203, 1000):
            self.assertIs(is_tread(path_tread(number - 1)), False)
            self.assertIs(is_tread(wide_tread(number)), False)

    def test_one_place_left_out(self):
        places, end = tread_of("abcCBbdDBBcC")
        for place in places:
            if place != end:
                left = tuple(other for other in places if other != place)
                needed = any(other[:-1] == place for other in left)
                self.assertIs(is_tread((left, end)), not needed)

    def test_two_places_exchanged(self):
        places, end = tread_of("abcCBbdDBBcC")
        for at, other in itertools.combinations(range(len(places)), 2):
            moved = list(places)
            moved[at], moved[other] = moved[other], moved[at]
            self.assertIs(is_tread((tuple(moved), end)), False)

    def test_nested_things(self):
        thing = (("",), "")
        for _ in range(18):
            thing = (thing, "")
            self.assertIs(is_tread(thing), False)

    def test_great_things(self):
        self.assertIs(is_tread((("",) * 99000, "")), False)
        self.assertIs(is_tread((("",), "a" * 99000)), False)
        self.assertIs(is_tread((("", "a" * 99000), "")), False)


class AlikeTest(unittest.TestCase):
    def test_words(self):
        self.assertIs(alike("aAbB", "bBaA"), True)
        self.assertIs(alike("aA", ""), False)
        self.assertIs(alike("", ""), True)
        self.assertIs(alike("a", "aAa"), True)
        self.assertIs(alike("a", "A"), False)
        self.assertIs(alike("ab", "abB"), False)

    def test_all_short_ones(self):
        for word, other in itertools.product(words_up_to(4, "aAb"), repeat=2):
            self.assertIs(alike(word, other), slow_tread(word) == slow_tread(other))


class RestTest(unittest.TestCase):
    def test_words(self):
        tread = tread_of("abBc")
        self.assertEqual(rest_word("a", tread), "bBc")
        self.assertIsNone(rest_word("b", tread))
        self.assertEqual(rest_word("ac", tread), "CbBc")
        self.assertEqual(rest_word("", tread), "abBc")
        self.assertIsNone(rest_word("abb", tread))
        self.assertIsNone(rest_word("bB", tread))

    def test_nothing_is_left(self):
        self.assertEqual(rest_word("", tread_of("")), "")
        self.assertEqual(rest_word("abBc", tread_of("abBc")), "")
        self.assertEqual(rest_word("abBcCbBc", tread_of("abBc")), "")

    def test_only_the_end_is_left(self):
        self.assertEqual(rest_word("abBcC", tread_of("abBc")), "c")
        self.assertEqual(rest_word("aab", tread_of("aabBAA")), "BAA")

    def test_first_letters_are_in_the_order(self):
        tread = tread_of("aAbBcCdDAaBbCcDd")
        self.assertEqual(rest_word("", tread), "AaBbCcDdaAbBcCdD")
        self.assertEqual(rest_word("a", tread), "AAaBbCcDdbBcCdD")
        self.assertEqual(rest_word("", (tread[0], "A")), "BbCcDdaAbBcCdDA")
        self.assertEqual(rest_word("", (tread[0], "b")), "AaBbCcDdaAcCdDb")

    def test_side_ways_first_then_the_end(self):
        tread = tread_of("aDdcCbdDcC")
        self.assertEqual(rest_word("", tread), "aDdcCbcCdD")
        self.assertEqual(rest_word("", (tread[0], "")), "aDdbcCdDBcCA")

    def test_against_all_words(self):
        words = words_up_to(4, "aAbB")
        treads = [slow_tread(word) for word in words + ["abBcC", "aAbBcC", "aabBAb", "abBcCdDA", "aAbBdDAb", "bABcC"]]
        for tread in sorted(set(treads)):
            for word in words_up_to(2, "aAb") + ["abBA", "aAAa", "bBa"]:
                self.assertEqual(rest_word(word, tread), slow_rest(word, tread), (word, tread))

    def test_the_whole_has_the_tread(self):
        for seed in range(30):
            whole = mixed_word(seed, 150)
            tread = slow_tread(whole)
            for length in (0, 1, 50, 149, 150):
                rest = rest_word(whole[:length], tread)
                self.assertEqual(slow_tread(whole[:length] + rest), tread)
                self.assertLessEqual(len(rest), 2 * (len(tread[0]) - 1))

    def test_the_longest(self):
        self.assertEqual(rest_word("a" * 200, (path_tread(200)[0], "")), "A" * 200)
        self.assertEqual(rest_word("", (path_tread(200)[0], "")), "a" * 200 + "A" * 200)


class LeastTest(unittest.TestCase):
    def test_words(self):
        self.assertEqual(least_word(tread_of("bBaAa")), "bBa")
        self.assertEqual(least_word(tread_of("")), "")
        self.assertEqual(least_word(tread_of("aAa")), "a")
        self.assertEqual(least_word(tread_of("bBaA")), "aAbB")
        self.assertEqual(len(least_word(tread_of("abBc"))), 4)

    def test_it_is_the_rest_behind_the_empty_word(self):
        for tread in sample_treads():
            self.assertEqual(least_word(tread), rest_word("", tread))

    def test_its_length(self):
        for tread in sample_treads() + [path_tread(200), wide_tread(201), (path_tread(200)[0], "")]:
            for end in (tread[1], tread[0][-1], ""):
                least = least_word((tread[0], end))
                self.assertEqual(len(least), 2 * (len(tread[0]) - 1) - len(end))
                self.assertEqual(slow_tread(least), (tread[0], end))

    def test_no_word_with_this_tread_is_shorter_or_ahead(self):
        firsts = {}
        for word in words_up_to(6, "aAbB"):
            firsts.setdefault(slow_tread(word), word)
        for tread, word in firsts.items():
            least = least_word(tread)
            self.assertEqual(len(least), len(word))
            self.assertLessEqual(least, word)
            self.assertEqual(slow_tread(least), tread)


class ShowsLeastTest(unittest.TestCase):
    def test_words(self):
        tread = tread_of("aAbB")
        self.assertIs(shows_least(tread, "aAbB"), True)
        self.assertIs(shows_least(tread, "bBaA"), True)
        self.assertIs(shows_least(tread, "aAaA"), False)
        self.assertIs(shows_least(tread, "aAb"), False)
        self.assertIs(shows_least(tread_of(""), ""), True)
        self.assertIs(shows_least(tread_of(""), "a"), False)

    def test_all_short_ones(self):
        words = words_up_to(4, "aAb")
        for tread in sorted({slow_tread(word) for word in words}):
            length = len(slow_rest("", tread))
            for word in words:
                expected = slow_tread(word) == tread and len(word) == length
                self.assertIs(shows_least(tread, word), expected)

    def test_a_step_longer(self):
        for tread in sample_treads():
            least = least_word(tread)
            self.assertIs(shows_least(tread, least), True)
            self.assertIs(shows_least(tread, least + "a"), False)
            if len(tread[0]) > 1:
                longer = least[:1] + least[:1].swapcase() + least
                self.assertEqual(slow_tread(longer), tread)
                self.assertIs(shows_least(tread, longer), False)

    def test_same_length_other_end(self):
        self.assertIs(shows_least((("", "a", "b"), "a"), "aAb"), False)
        self.assertIs(shows_least((("", "a", "b"), "b"), "aAb"), True)

    def test_any_length(self):
        for length in (100, 199, 200):
            spare = (path_tread(length)[0], "")
            self.assertIs(shows_least(spare, "a" * length + "A" * length), True)
            self.assertIs(shows_least(spare, "A" * length + "a" * length), False)
            self.assertIs(shows_least(spare, "a" * (2 * length)), False)
            self.assertIs(shows_least(spare, "a" * (2 * length + 1)), False)
        self.assertIs(shows_least(tread_of("a"), "a" * 90000), False)

    def test_other_things(self):
        for thing in NO_WORDS + NO_TREADS:
            if not isinstance(thing, str) or thing not in ("", "a"):
                self.assertIs(shows_least(tread_of("a"), thing), False)
        self.assertIs(shows_least(tread_of("a"), ["a"]), False)
        self.assertIs(shows_least(tread_of("a"), ("a",)), False)
        self.assertIs(shows_least(tread_of("ab"), ["a", "b"]), False)
        self.assertIs(shows_least(tread_of("ab"), [["a"], {"b": ("a", None)}]), False)


class ErrorsTest(unittest.TestCase):
    def test_no_word(self):
        tread = tread_of("a")
        for thing in NO_WORDS + ("a" * 201, "aA" * 150):
            with self.subTest(thing=thing):
                self.assertRaises(NoWord, tread_of, thing)
                self.assertRaises(NoWord, alike, thing, "a")
                self.assertRaises(NoWord, alike, "a", thing)
                self.assertRaises(NoWord, rest_word, thing, tread)

    def test_lengths(self):
        for length in (199, 200):
            tread = path_tread(length)
            self.assertEqual(tread_of("a" * length), tread)
            self.assertIs(alike("a" * length, "a" * length), True)
            self.assertEqual(rest_word("a" * length, tread), "")
            self.assertEqual(least_word(tread), "a" * length)

    def test_no_tread(self):
        for thing in NO_TREADS + (path_tread(201), wide_tread(202)):
            with self.subTest(thing=thing):
                self.assertRaises(NoTread, rest_word, "a", thing)
                self.assertRaises(NoTread, least_word, thing)
                self.assertRaises(NoTread, shows_least, thing, "a")

    def test_the_earliest_one(self):
        for wrong, other in itertools.product((None, True, "e", ["a"], "a" * 201), (None, 0, [], ((), ""), "a")):
            self.assertRaises(NoWord, rest_word, wrong, other)
            self.assertRaises(NoWord, alike, wrong, other)
        for wrong, thing in itertools.product((None, "a", [("",), ""]), (None, "a", "e", [])):
            self.assertRaises(NoTread, shows_least, wrong, thing)


class ArgumentsTest(unittest.TestCase):
    def test_by_their_names(self):
        tread = tread_of(word="abBc")
        self.assertEqual(tread, tread_of("abBc"))
        self.assertIs(alike(other="aAa", word="a"), True)
        self.assertIs(is_tread(thing=tread), True)
        self.assertEqual(rest_word(tread=tread, word="a"), "bBc")
        self.assertEqual(least_word(tread=tread), "abBc")
        self.assertIs(shows_least(thing="abBc", tread=tread), True)

    def test_they_stay_as_they_are(self):
        thing = [["a", ("b", [None])], {"": [""]}]
        was = repr(thing)
        is_tread(thing)
        shows_least(tread_of("ab"), thing)
        self.assertRaises(NoTread, least_word, thing)
        self.assertRaises(NoTread, rest_word, "a", thing)
        self.assertRaises(NoWord, tread_of, thing)
        self.assertRaises(NoWord, alike, "a", thing)
        self.assertEqual(repr(thing), was)
        tread = tread_of("abBc")
        was = repr(tread)
        for _ in range(2):
            self.assertEqual(rest_word("a", tread), "bBc")
            self.assertEqual(least_word(tread), "abBc")
            self.assertIs(shows_least(tread, "abBc"), True)
        self.assertEqual(repr(tread), was)


class AllWordsTest(unittest.TestCase):
    """Promise [14], where it speaks of least words and of the back of a walk."""

    def test_each_tread_is_that_of_its_least_word(self):
        for tread in sample_treads():
            self.assertEqual(slow_tread(least_word(tread)), tread)

    def test_the_length_is_the_least(self):
        shortest = {}
        for word in words_up_to(4):
            shortest.setdefault(slow_tread(word), len(word))
        for tread, length in shortest.items():
            self.assertEqual(len(least_word(tread)), length)
            self.assertEqual(slow_reduced(least_word(tread)), tread[1])


if __name__ == "__main__":
    unittest.main()
