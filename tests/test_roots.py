"""Promise [7]: roots, and what bars a tread from having one."""

import itertools
import unittest

from samples import (
    NO_INTEGERS, NO_TREADS, mixed_word, path_tread, places_within, sample_treads, slow_reduced, slow_tread,
    treads_within, wide_tread, words_up_to,
)
from solvedtreads.errors import NoPower, NoTread, TooGreat
from solvedtreads.orders import treads_all
from solvedtreads.products import power
from solvedtreads.roots import root_of, shows_no_root
from solvedtreads.treads import least_word, tread_of
from solvedtreads.words import back

EXPONENTS = range(2, 10)


def slow_root_place(end, e, pool):
    """Return the one of a pool of places that leads to an end if walked e times, or None."""
    found = [place for place in pool if slow_reduced(place * e) == end]
    assert len(found) < 2
    return found[0] if found else None


def slow_bar(tread, e, pool):
    """Go by the words of the document: what bars a tread from a root, None if nothing does."""
    places, end = tread
    h = slow_root_place(end, e, pool)
    if h is None:
        return ("end",)
    for i in range(1, e):
        if slow_reduced(h * i) not in places:
            return ("ring", i)
    for p in places:
        # For j = 0 such an x is a place of the tread itself.
        rows = [[slow_reduced(h * j + x) for j in range(e)] for x in places]
        if not [row for row in rows if p in row and set(row) <= set(places)]:
            return ("place", p)
    return None


def slow_roots(tread, e, candidates):
    """Return all of the candidates whose power is the tread."""
    return [x for x in candidates if slow_tread(least_word(x) * e) == tread]


class RootTest(unittest.TestCase):
    def test_treads(self):
        self.assertEqual(root_of(tread_of("bBabBa"), 2), (("", "a", "b"), "a"))
        self.assertEqual(root_of(tread_of("aa"), 2), tread_of("a"))
        self.assertEqual(root_of(tread_of("abab"), 2), tread_of("ab"))
        self.assertEqual(root_of(tread_of("baaB"), 2), None)
        self.assertEqual(root_of(tread_of("baBbaB"), 2), tread_of("baB"))
        self.assertEqual(root_of(tread_of("a"), 2), None)
        self.assertEqual(root_of(tread_of("aaa"), 2), None)
        self.assertEqual(root_of(tread_of("aaa"), 3), tread_of("a"))

    def test_it_has_the_most_places(self):
        # Three walks tread all without ab, too: what ab leads to, b and aab lead to.
        greatest, other = tread_of("bBabBabBA"), tread_of("bBaabBA")
        tread = power(greatest, 3)
        self.assertEqual(power(other, 3), tread)
        self.assertEqual(slow_roots(tread, 3, treads_within(greatest[0])), [other, greatest])
        self.assertEqual(root_of(tread, 3), greatest)
        self.assertEqual(root_of(tread_of("AaaaaaA"), 3), (("", "A", "a", "aa"), "a"))
        self.assertEqual(root_of(tread_of("aaaaA"), 3), (("", "a", "aa"), "a"))

    def test_of_what_ends_at_the_empty_place(self):
        for tread in [(tread[0], "") for tread in sample_treads()] + [wide_tread(201), (path_tread(200)[0], "")]:
            for e in EXPONENTS:
                self.assertEqual(root_of(tread, e), tread)
                self.assertIsNone(shows_no_root(tread, e))

    def test_of_powers(self):
        for tread in [slow_tread(word) for word in words_up_to(3, "aBb") + ["abcBA", "bBabAB", "dDaAcC", "abAcaBA"]]:
            for e in EXPONENTS:
                whole = power(tread, e)
                root = root_of(whole, e)
                self.assertEqual(power(root, e), whole)
                self.assertIs(treads_all(root, tread), True)
                self.assertIsNone(shows_no_root(whole, e))

    def test_all_small_ones(self):
        pool = [word for word in words_up_to(5, "aAbB") if slow_reduced(word) == word]
        for word in words_up_to(5, "aAb"):
            tread = slow_tread(word)
            candidates = treads_within(tread[0])
            for e in (2, 3, 4):
                root, bar = root_of(tread, e), shows_no_root(tread, e)
                roots = slow_roots(tread, e, candidates)
                self.assertEqual(bar, slow_bar(tread, e, pool))
                if root is None:
                    self.assertEqual(roots, [])
                    self.assertIsNotNone(bar)
                else:
                    self.assertIsNone(bar)
                    self.assertIn(root, roots)
                    for other in roots:
                        self.assertIs(treads_all(root, other), True)

    def test_all_within_some_places(self):
        places = slow_tread("aaaAAbBAbB")[0]
        pool = [word for word in words_up_to(3, "aAbB") if slow_reduced(word) == word]
        for row in places_within(places):
            for end in row:
                for e in (2, 3):
                    bar = slow_bar((row, end), e, pool)
                    self.assertEqual(shows_no_root((row, end), e), bar)
                    self.assertEqual(root_of((row, end), e) is None, bar is not None)

    def test_great_ones(self):
        straight = path_tread(200)
        for e in EXPONENTS:
            if 200 % e == 0:
                self.assertEqual(root_of(straight, e), path_tread(200 // e))
                self.assertIsNone(shows_no_root(straight, e))
            else:
                self.assertIsNone(root_of(straight, e))
                self.assertEqual(shows_no_root(straight, e), ("end",))
        self.assertEqual(root_of(path_tread(198), 9), path_tread(22))

    def test_words_that_go_out_far_and_come_back(self):
        for e in EXPONENTS:
            far = "b" * (100 // (e + 1)) + "c" * (60 // (e + 1))
            home = back(far)
            one = tread_of(far + "da" + home)
            whole = power(one, e)
            self.assertGreater(len(whole[0]), 150)
            self.assertEqual(root_of(whole, e), one)
            straight = tread_of(far + "da" * e + home)
            self.assertIsNone(root_of(straight, e))
            self.assertEqual(shows_no_root(straight, e), ("ring", 1))
            self.assertEqual(shows_no_root(tread_of(far + "da" * e + "d" + home), e), ("end",))
            self.assertEqual(shows_no_root(tread_of(far + "aD" * e + home[:-1]), e), ("end",))
            self.assertEqual(root_of(tread_of(far + home), e), tread_of(far + home))

class BarTest(unittest.TestCase):
    def test_treads(self):
        self.assertEqual(shows_no_root(tread_of("aabB"), 2), ("place", "aab"))
        self.assertEqual(shows_no_root(tread_of("baaB"), 2), ("ring", 1))
        self.assertEqual(shows_no_root(tread_of("ab"), 2), ("end",))
        self.assertEqual(shows_no_root(tread_of("aa"), 3), ("end",))
        self.assertEqual(shows_no_root(tread_of("aba"), 3), ("end",))
        self.assertEqual(shows_no_root(tread_of("abbA"), 2), ("ring", 1))
        self.assertIsNone(shows_no_root(tread_of("aa"), 2))
        self.assertIsNone(shows_no_root(tread_of(""), 9))

    def test_the_least_ring(self):
        h = "baB"
        for e in EXPONENTS:
            for i in range(1, e):
                # All rings up to the one ahead of i, and the end itself.
                tread = tread_of(h * (i - 1) + slow_reduced(h[::-1].swapcase() * (i - 1) + h * e))
                self.assertEqual(shows_no_root(tread, e), ("ring", i))
                self.assertIsNone(root_of(tread, e))
            self.assertIsNone(shows_no_root(tread_of(h * e), e))

    def test_a_ring_that_is_not_the_only_one(self):
        # h * 2 is there, but h * 1 and h * 3 are not.
        tread = tread_of("baaBbAAaaaaB")
        self.assertIn("baaB", tread[0])
        self.assertNotIn("baB", tread[0])
        self.assertNotIn("baaaB", tread[0])
        self.assertEqual(shows_no_root(tread, 4), ("ring", 1))
        # h * 1 is there, but h * 2 and h * 3 are not.
        self.assertEqual(shows_no_root(tread_of("baBbaaaB"), 4), ("ring", 2))

    def test_the_first_place(self):
        self.assertEqual(shows_no_root(tread_of("cCaabBcC"), 2), ("place", "c"))
        self.assertEqual(shows_no_root(tread_of("dDaabBAdDa"), 2), ("place", "aab"))
        self.assertEqual(shows_no_root(tread_of("abBdDa"), 2), ("place", "ab"))
        # Neither d nor aad has its like at a.
        self.assertEqual(shows_no_root(tread_of("dDaadD"), 2), ("place", "d"))


class PowerErrorsTest(unittest.TestCase):
    def test_no_power(self):
        for thing in NO_INTEGERS + (-9, -2, -1, 0, 1, 10, 11, 20, 10 ** 60):
            with self.subTest(thing=thing):
                for tread in (tread_of("aa"), tread_of("")):
                    self.assertRaises(NoPower, root_of, tread, thing)
                    self.assertRaises(NoPower, shows_no_root, tread, thing)

    def test_no_tread(self):
        for thing in NO_TREADS + (path_tread(201), wide_tread(202)):
            with self.subTest(thing=thing):
                for e in (2, 9, 1, 10, None, True, "2"):
                    self.assertRaises(NoTread, root_of, thing, e)
                    self.assertRaises(NoTread, shows_no_root, thing, e)

    def test_no_more_than_due(self):
        # Such a root's power by more is too great, which nobody asked for.
        whole = path_tread(200)
        self.assertRaises(TooGreat, power, root_of(whole, 2), 3)


class ArgumentsTest(unittest.TestCase):
    def test_by_their_names(self):
        self.assertEqual(root_of(e=2, tread=tread_of("aa")), tread_of("a"))
        self.assertEqual(shows_no_root(e=3, tread=tread_of("aa")), ("end",))

    def test_they_stay_as_they_are(self):
        tread, other = tread_of("bBabBa"), tread_of("aabB")
        was = repr((tread, other))
        for _ in range(2):
            self.assertEqual(root_of(tread, 2), tread_of("bBa"))
            self.assertIsNone(shows_no_root(tread, 2))
            self.assertIsNone(root_of(other, 2))
            self.assertEqual(shows_no_root(other, 2), ("place", "aab"))
        self.assertEqual(repr((tread, other)), was)
        thing = [["", "a"], "a"]
        for function in (root_of, shows_no_root):
            self.assertRaises(NoTread, function, thing, thing)
            self.assertRaises(NoPower, function, tread, thing)
        self.assertEqual(thing, [["", "a"], "a"])

    def test_long_treads(self):
        for seed, e in itertools.product(range(4), EXPONENTS):
            tread = tread_of(mixed_word(seed, 21))
            whole = power(tread, e)
            self.assertEqual(power(root_of(whole, e), e), whole)


if __name__ == "__main__":
    unittest.main()
