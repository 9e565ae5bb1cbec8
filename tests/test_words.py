"""Promise [2]: words, backs, reduced words, places."""

import itertools
import unittest

from samples import LETTERS, NO_REDUCED, NO_WORDS, mixed_word, slow_reduced, words_up_to
from solvedtreads.errors import NoPlace, NoWord
from solvedtreads.words import back, behind, in_order, is_place, is_word, reduced


class BackTest(unittest.TestCase):
    def test_letters(self):
        for letter, other in ("aA", "bB", "cC", "dD"):
            self.assertEqual(back(letter), other)
            self.assertEqual(back(other), letter)

    def test_words(self):
        self.assertEqual(back(""), "")
        self.assertEqual(back("abC"), "cBA")
        self.assertEqual(back("aA"), "aA")
        self.assertEqual(back("abcdABCD"), "dcbaDCBA")
        for word in words_up_to(3):
            self.assertEqual(back(back(word)), word)
            self.assertEqual(slow_reduced(word + back(word)), "")

    def test_it_leaves_pairs_in(self):
        self.assertEqual(back("aAb"), "BaA")


class ReducedTest(unittest.TestCase):
    def test_words(self):
        self.assertEqual(reduced(""), "")
        self.assertEqual(reduced("abBAc"), "c")
        self.assertEqual(reduced("aAa"), "a")
        self.assertEqual(reduced("abcCBA"), "")
        self.assertEqual(reduced("aab"), "aab")
        self.assertEqual(reduced("aBAb"), "aBAb")
        self.assertEqual(reduced("acdDCbBA"), "")

    def test_all_short_ones(self):
        for word in words_up_to(4):
            self.assertEqual(reduced(word), slow_reduced(word))

    def test_long_ones(self):
        for seed in range(20):
            word = mixed_word(seed, 200, "abAB")
            self.assertEqual(reduced(word), slow_reduced(word))
        self.assertEqual(reduced("ab" * 50 + "BA" * 50), "")
        self.assertEqual(reduced("ab" * 100), "ab" * 100)


class KindsTest(unittest.TestCase):
    def test_words_and_places(self):
        for word in words_up_to(3):
            self.assertIs(is_word(word), True)
            self.assertIs(is_place(word), word == slow_reduced(word))

    def test_words_that_are_no_places(self):
        for word in NO_REDUCED:
            self.assertIs(is_word(word), True)
            self.assertIs(is_place(word), False)

    def test_other_things(self):
        for thing in NO_WORDS:
            with self.subTest(thing=thing):
                self.assertIs(is_word(thing), False)
                self.assertIs(is_place(thing), False)

    def test_any_length(self):
        for length in (199, 200, 201, 1000, 100000):
            self.assertIs(is_word("ab" * length), True)
            self.assertIs(is_place("ab" * length), True)
            self.assertIs(is_word("aA" * length), True)
            self.assertIs(is_place("aA" * length), False)
            self.assertIs(is_place("a" * length + "bB"), False)
            self.assertIs(is_word("a" * length + "e"), False)
            self.assertIs(is_place("a" * length + "e"), False)

    def test_a_wrong_sign_at_each_spot(self):
        for spot in range(6):
            thing = "abcabc"[:spot] + "x" + "abcabc"[spot + 1:]
            self.assertIs(is_word(thing), False)
            self.assertIs(is_place(thing), False)

    def test_all_characters(self):
        for number in range(0x250):
            self.assertIs(is_word(chr(number)), chr(number) in "abcdABCD")

    def test_nested_things(self):
        thing = "a"
        for _ in range(19):
            thing = [thing]
        self.assertIs(is_word(thing), False)
        self.assertIs(is_place((thing, {"a": thing})), False)


class BehindTest(unittest.TestCase):
    def test_walks(self):
        self.assertEqual(behind("ab", "Bc"), "ac")
        self.assertEqual(behind("", ""), "")
        self.assertEqual(behind("ab", ""), "ab")
        self.assertEqual(behind("", "aAb"), "b")
        self.assertEqual(behind("ab", "BAA"), "A")
        self.assertEqual(behind("ab", "cCBb"), "ab")

    def test_all_short_ones(self):
        places = [word for word in words_up_to(2) if word == slow_reduced(word)]
        for place, word in itertools.product(places, words_up_to(3)):
            self.assertEqual(behind(place, word), slow_reduced(place + word))

    def test_what_is_returned_may_be_longer(self):
        self.assertEqual(behind("a" * 200, "b" * 200), "a" * 200 + "b" * 200)
        self.assertEqual(behind("a" * 200, "A" * 200), "")


class OrderTest(unittest.TestCase):
    def test_shorter_ones_first_then_as_strings(self):
        self.assertEqual(in_order(["b", "aa", "A", "", "a", "D", "Aa", "A"]), ("", "A", "D", "a", "b", "Aa", "aa"))
        self.assertEqual(in_order(reversed(LETTERS)), tuple("ABCDabcd"))


class ErrorsTest(unittest.TestCase):
    def test_no_word(self):
        for thing in NO_WORDS:
            with self.subTest(thing=thing):
                self.assertRaises(NoWord, back, thing)
                self.assertRaises(NoWord, reduced, thing)
                self.assertRaises(NoWord, behind, "ab", thing)

    def test_no_place(self):
        for thing in NO_WORDS + NO_REDUCED:
            with self.subTest(thing=thing):
                self.assertRaises(NoPlace, behind, thing, "ab")

    def test_lengths(self):
        for length in (199, 200):
            word = "a" * length
            self.assertEqual(back(word), "A" * length)
            self.assertEqual(reduced(word), word)
            self.assertEqual(behind(word, "A"), "a" * (length - 1))
            self.assertEqual(behind("A", word), "a" * (length - 1))
        for word in ("a" * 201, "aA" * 100 + "a"):
            self.assertRaises(NoWord, back, word)
            self.assertRaises(NoWord, reduced, word)
            self.assertRaises(NoWord, behind, "", word)
        self.assertRaises(NoPlace, behind, "a" * 201, "")

    def test_the_earliest_one(self):
        for place, word in itertools.product((None, "aA", "a" * 201, ["a"]), (None, "e", "a" * 201, ["a"])):
            self.assertRaises(NoPlace, behind, place, word)


class ArgumentsTest(unittest.TestCase):
    def test_by_their_names(self):
        self.assertEqual(back(word="ab"), "BA")
        self.assertEqual(reduced(word="aAb"), "b")
        self.assertIs(is_word(thing="ab"), True)
        self.assertIs(is_place(thing="ab"), True)
        self.assertEqual(behind(word="Bc", place="ab"), "ac")

    def test_they_stay_as_they_are(self):
        for thing in (["a", ["b"]], {"a": ["b"]}, ("a", ["b"])):
            was = repr(thing)
            is_word(thing)
            is_place(thing)
            self.assertRaises(NoWord, back, thing)
            self.assertRaises(NoWord, reduced, thing)
            self.assertRaises(NoPlace, behind, thing, thing)
            self.assertEqual(repr(thing), was)


if __name__ == "__main__":
    unittest.main()
