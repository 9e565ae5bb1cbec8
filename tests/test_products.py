"""Promise [5]: products, backs and powers."""

import itertools
import unittest

from samples import (
    NO_INTEGERS, NO_TREADS, mixed_word, path_tread, sample_treads, slow_reduced, slow_tread, wide_tread, words_up_to,
)
from solvedtreads.errors import NoPower, NoTread, TooGreat
from solvedtreads.products import back_of, power, product
from solvedtreads.treads import is_tread, least_word, tread_of
from solvedtreads.words import back


def slow_power(word, e):
    """Return the tread of a word, or of its back, written so and so many times."""
    return slow_tread((word if e >= 0 else back(word)) * abs(e))


class ProductTest(unittest.TestCase):
    def test_treads(self):
        one = tread_of("ab")
        self.assertEqual(product(one, tread_of("Bc")), (("", "a", "ab", "ac"), "ac"))
        self.assertEqual(product(one, back_of(one)), (("", "a", "ab"), ""))
        self.assertEqual(product(tread_of("a"), tread_of("bB")), (("", "a", "ab"), "a"))
        self.assertEqual(product(tread_of("bB"), tread_of("a")), (("", "a", "b"), "a"))
        self.assertEqual(product(tread_of("A"), tread_of("b")), (("", "A", "Ab"), "Ab"))

    def test_the_empty_one(self):
        empty = tread_of("")
        for tread in sample_treads():
            self.assertEqual(product(empty, tread), tread)
            self.assertEqual(product(tread, empty), tread)

    def test_all_short_ones(self):
        for word, other in itertools.product(words_up_to(3, "aAb"), words_up_to(3, "aBb")):
            self.assertEqual(product(slow_tread(word), slow_tread(other)), slow_tread(word + other))

    def test_long_ones(self):
        for seed in range(20):
            word, other = mixed_word(seed, 100), mixed_word(seed + 50, 100)
            self.assertEqual(product(tread_of(word), tread_of(other)), slow_tread(word + other))

    def test_it_is_a_tread(self):
        for one, other in itertools.product(sample_treads()[::5], repeat=2):
            self.assertIs(is_tread(product(one, other)), True)

    def test_just_as_many_places(self):
        one, other = path_tread(150), path_tread(50)
        self.assertEqual(product(one, other), path_tread(200))
        self.assertEqual(product(path_tread(200), tread_of("")), path_tread(200))
        self.assertEqual(product(path_tread(200), tread_of("A")), (path_tread(200)[0], "a" * 199))
        self.assertEqual(product(path_tread(200), back_of(path_tread(200))), (path_tread(200)[0], ""))
        self.assertEqual(product(wide_tread(201), wide_tread(9)), wide_tread(201))

    def test_one_more(self):
        straight = path_tread(200)
        for one, other in (
            (path_tread(150), path_tread(51)), (straight, tread_of("a")), (straight, tread_of("b")),
            (straight, tread_of("bB")), (tread_of("b"), straight), (tread_of("bB"), straight),
        ):
            self.assertEqual(len(slow_tread(least_word(one) + least_word(other))[0]), 202)
            self.assertRaises(TooGreat, product, one, other)

    def test_many_more(self):
        self.assertRaises(TooGreat, product, path_tread(200), path_tread(200))
        self.assertRaises(TooGreat, product, wide_tread(201), path_tread(200))


class BackTest(unittest.TestCase):
    def test_treads(self):
        self.assertEqual(back_of(tread_of("")), tread_of(""))
        self.assertEqual(back_of(tread_of("ab")), (("", "B", "BA"), "BA"))
        self.assertEqual(back_of(tread_of("aA")), tread_of("aA"))
        self.assertEqual(back_of(tread_of("abBc")), (("", "C", "CA", "Cb"), "CA"))

    def test_all_short_ones(self):
        for word in words_up_to(4):
            self.assertEqual(back_of(slow_tread(word)), slow_tread(back(word)))

    def test_the_back_of_the_back(self):
        for tread in sample_treads() + [path_tread(200), wide_tread(201)]:
            turned = back_of(tread)
            self.assertIs(is_tread(turned), True)
            self.assertEqual(len(turned[0]), len(tread[0]))
            self.assertEqual(back_of(turned), tread)


class PowerTest(unittest.TestCase):
    def test_treads(self):
        self.assertEqual(power(tread_of("bBa"), 2), (("", "a", "b", "aa", "ab"), "aa"))
        self.assertEqual(power(tread_of("ab"), 0), (("",), ""))
        self.assertEqual(power(tread_of("ab"), 1), tread_of("ab"))
        self.assertEqual(power(tread_of("ab"), -1), tread_of("BA"))
        self.assertEqual(power(tread_of("ab"), -2), tread_of("BABA"))
        self.assertEqual(power(tread_of("abA"), 3), tread_of("abAabAabA"))

    def test_all_exponents(self):
        for word in ("", "a", "aA", "bBa", "abA", "abBA", "cdDab", "bcCdDB"):
            for e in range(-20, 21):
                self.assertEqual(power(tread_of(word), e), slow_power(word, e))

    def test_just_as_many_places(self):
        self.assertEqual(power(tread_of("a" * 10), 20), path_tread(200))
        self.assertEqual(power(tread_of("A" * 10), -20), path_tread(200))
        self.assertEqual(power(path_tread(200), 1), path_tread(200))
        self.assertEqual(power(path_tread(200), 0), tread_of(""))
        self.assertEqual(len(power(path_tread(200), -1)[0]), 201)
        self.assertEqual(power(path_tread(100), 2), path_tread(200))
        self.assertEqual(power(wide_tread(201), 20), wide_tread(201))

    def test_one_more(self):
        for word, e in (("a" * 67, 3), ("a" * 11 + "A", 20), ("a" * 101 + "A", 2)):
            self.assertEqual(len(slow_power(word, e)[0]), 202)
            self.assertRaises(TooGreat, power, tread_of(word), e)
            self.assertRaises(TooGreat, power, tread_of(back(word)), -e)
            self.assertEqual(power(tread_of(word), e - 1), slow_power(word, e - 1))
            self.assertEqual(power(tread_of(word), 1 - e), slow_power(word, 1 - e))

    def test_many_more(self):
        for e in (2, -2, 20, -20):
            self.assertRaises(TooGreat, power, path_tread(200), e)


class ErrorsTest(unittest.TestCase):
    def test_no_tread(self):
        tread = tread_of("a")
        for thing in NO_TREADS + (path_tread(201), wide_tread(202)):
            with self.subTest(thing=thing):
                self.assertRaises(NoTread, product, thing, tread)
                self.assertRaises(NoTread, product, tread, thing)
                self.assertRaises(NoTread, back_of, thing)
                self.assertRaises(NoTread, power, thing, 2)
                self.assertRaises(NoTread, power, thing, 0)

    def test_no_power(self):
        for thing in NO_INTEGERS + (-21, 21, 22, -100, 10 ** 60, -10 ** 60):
            with self.subTest(thing=thing):
                self.assertRaises(NoPower, power, tread_of("a"), thing)
                self.assertRaises(NoPower, power, tread_of(""), thing)

    def test_the_earliest_one(self):
        for tread, e in itertools.product((None, "a", [], [("",), ""]), (None, True, 21, -21, "1")):
            self.assertRaises(NoTread, power, tread, e)
            self.assertRaises(NoTread, product, tread, e)

    def test_too_great_comes_last(self):
        great = path_tread(200)
        for thing in NO_INTEGERS + (-21, 21):
            self.assertRaises(NoPower, power, great, thing)
        for thing in NO_TREADS:
            self.assertRaises(NoTread, product, great, thing)


class ArgumentsTest(unittest.TestCase):
    def test_by_their_names(self):
        self.assertEqual(product(other=tread_of("b"), one=tread_of("a")), tread_of("ab"))
        self.assertEqual(back_of(tread=tread_of("a")), tread_of("A"))
        self.assertEqual(power(e=2, tread=tread_of("a")), tread_of("aa"))

    def test_they_stay_as_they_are(self):
        one, other = tread_of("abBc"), tread_of("Cd")
        was = repr((one, other))
        for _ in range(2):
            self.assertEqual(product(one, other), slow_tread("abBcCd"))
            self.assertEqual(back_of(one), slow_tread("CbBA"))
            self.assertEqual(power(one, -3), slow_tread("CbBA" * 3))
        self.assertEqual(repr((one, other)), was)
        thing = [[""], ""]
        self.assertRaises(NoTread, product, one, thing)
        self.assertRaises(NoTread, power, thing, thing)
        self.assertRaises(NoTread, back_of, thing)
        self.assertRaises(NoPower, power, one, thing)
        self.assertEqual(thing, [[""], ""])


class AllTreadsTest(unittest.TestCase):
    """Promise [14], where it speaks of products."""

    def test_words_put_together(self):
        words = [mixed_word(seed, seed) for seed in range(100)]
        for word, other in zip(words, words[1:]):
            self.assertEqual(tread_of(word + other), product(tread_of(word), tread_of(other)))

    def test_a_tread_its_back_and_itself(self):
        for tread in sample_treads() + [path_tread(200), wide_tread(201)]:
            self.assertEqual(product(product(tread, back_of(tread)), tread), tread)
            self.assertEqual(product(tread, product(back_of(tread), tread)), tread)
            self.assertEqual(slow_reduced(product(tread, back_of(tread))[1]), "")


if __name__ == "__main__":
    unittest.main()
