"""Promise [6]: treads beside each other, and seen from other places."""

import itertools
import unittest

from samples import (
    NO_REDUCED, NO_TREADS, NO_WORDS, in_order, mixed_word, path_tread, sample_treads, slow_seen, slow_tread,
    treads_within, wide_tread, words_up_to,
)
from solvedtreads.errors import NoPlace, NoTread, TooGreat
from solvedtreads.orders import common, least_over, seen_from, shift_of, spare_of, treads_all
from solvedtreads.products import product
from solvedtreads.treads import is_tread, tread_of
from solvedtreads.words import back

FUNCTIONS = (treads_all, least_over, common, shift_of)


def small_treads():
    """Return the treads of all words of up to three of three letters, each once."""
    return sorted({slow_tread(word) for word in words_up_to(3, "aAb")})


class TreadsAllTest(unittest.TestCase):
    def test_treads(self):
        self.assertIs(treads_all(tread_of("abBA"), tread_of("aA")), True)
        self.assertIs(treads_all(tread_of("aA"), tread_of("abBA")), False)
        self.assertIs(treads_all(tread_of("abBA"), tread_of("a")), False)
        self.assertIs(treads_all(tread_of("abBA"), tread_of("cC")), False)
        self.assertIs(treads_all(tread_of("bBa"), tread_of("a")), True)
        self.assertIs(treads_all(tread_of(""), tread_of("")), True)

    def test_all_small_ones(self):
        for one, other in itertools.product(small_treads(), repeat=2):
            expected = set(one[0]) >= set(other[0]) and one[1] == other[1]
            self.assertIs(treads_all(one, other), expected)

    def test_as_many_places(self):
        for end in ("", "a" * 200, "a" * 7):
            great = (path_tread(200)[0], end)
            self.assertIs(treads_all(great, great), True)
        self.assertIs(treads_all(path_tread(200), (path_tread(200)[0], "")), False)
        self.assertIs(treads_all(wide_tread(201), wide_tread(200)), True)
        self.assertIs(treads_all(wide_tread(200), wide_tread(201)), False)


class OverAndCommonTest(unittest.TestCase):
    def test_treads(self):
        one, other = tread_of("abBA"), tread_of("cCaA")
        self.assertEqual(least_over(one, other), (("", "a", "c", "ab"), ""))
        self.assertEqual(common(one, other), (("", "a"), ""))
        self.assertEqual(least_over(tread_of("abBc"), tread_of("DdacCbBc")), tread_of("abBADdac"))
        self.assertEqual(common(tread_of("aA"), tread_of("bB")), tread_of(""))

    def test_ends_that_are_not_the_same(self):
        for word, other in (("a", ""), ("a", "A"), ("ab", "a"), ("a", "bBaA"), ("", "dDc")):
            one, two = tread_of(word), tread_of(other)
            for answer in (least_over(one, two), least_over(two, one), common(one, two), common(two, one)):
                self.assertIsNone(answer)

    def test_all_small_ones(self):
        for one, other in itertools.product(small_treads(), repeat=2):
            over, both = None, None
            if one[1] == other[1]:
                over = (in_order(set(one[0]) | set(other[0])), one[1])
                both = (in_order(set(one[0]) & set(other[0])), one[1])
            self.assertEqual(least_over(one, other), over)
            self.assertEqual(common(one, other), both)

    def test_they_are_treads(self):
        for one, other in itertools.combinations(sample_treads()[::3], 2):
            one, other = (one[0], ""), (other[0], "")
            for answer in (least_over(one, other), common(one, other)):
                self.assertIs(is_tread(answer), True)
            self.assertIs(treads_all(least_over(one, other), one), True)
            self.assertIs(treads_all(least_over(one, other), other), True)
            self.assertIs(treads_all(one, common(one, other)), True)
            self.assertIs(treads_all(other, common(one, other)), True)

    def test_just_as_many_places(self):
        one = (path_tread(100)[0], "")
        other = slow_tread("b" * 100 + "B" * 100)
        over = least_over(one, other)
        self.assertEqual(over, (in_order(one[0] + other[0][1:]), ""))
        self.assertEqual(len(over[0]), 201)
        self.assertEqual(least_over(path_tread(200), path_tread(200)), path_tread(200))
        self.assertEqual(least_over(wide_tread(201), wide_tread(150)), wide_tread(201))
        self.assertEqual(common(wide_tread(201), wide_tread(150)), wide_tread(150))

    def test_one_more(self):
        one = (path_tread(100)[0], "")
        for word in ("b" * 101, "b" * 100 + "c", "B" * 50 + "A" * 51):
            other = (slow_tread(word)[0], "")
            self.assertRaises(TooGreat, least_over, one, other)
            self.assertRaises(TooGreat, least_over, other, one)
            self.assertEqual(common(one, other), tread_of(""))
        self.assertRaises(TooGreat, least_over, (path_tread(200)[0], ""), tread_of("aAbB"))

    def test_too_great_with_other_ends(self):
        self.assertIsNone(least_over(path_tread(200), wide_tread(201)))
        self.assertIsNone(common(path_tread(200), wide_tread(201)))


class SpareTest(unittest.TestCase):
    def test_treads(self):
        self.assertEqual(spare_of(tread_of("ab")), (("", "a", "ab"), ""))
        self.assertEqual(spare_of(tread_of("")), tread_of(""))
        for tread in sample_treads() + [path_tread(200), wide_tread(201)]:
            spare = spare_of(tread)
            self.assertEqual(spare, (tread[0], ""))
            self.assertEqual(spare_of(spare), spare)
            self.assertEqual(product(spare, spare), spare)


class SeenFromTest(unittest.TestCase):
    def test_treads(self):
        self.assertEqual(seen_from(tread_of("abBA"), "a"), (("", "A", "b"), "A"))
        self.assertEqual(seen_from(tread_of("abBA"), "ab"), (("", "B", "BA"), "BA"))
        self.assertEqual(seen_from(tread_of("ab"), "ab"), (("", "B", "BA"), ""))
        self.assertEqual(seen_from(tread_of(""), ""), tread_of(""))

    def test_from_each_place_and_back(self):
        for tread in sample_treads() + [tread_of(mixed_word(3, 90)), path_tread(30)]:
            for place in tread[0]:
                seen = seen_from(tread, place)
                self.assertEqual(seen, slow_seen(tread, place))
                self.assertIs(is_tread(seen), True)
                self.assertEqual(seen_from(seen, back(place)), tread)

    def test_from_its_end_and_the_empty_place(self):
        for tread in sample_treads():
            self.assertEqual(seen_from(tread, ""), tread)
            self.assertEqual(seen_from(tread, tread[1])[1], "")

    def test_great_ones(self):
        straight = path_tread(200)
        seen = seen_from(straight, "a" * 200)
        self.assertEqual(seen, (tuple("A" * k for k in range(201)), ""))
        self.assertEqual(seen_from(seen, "A" * 200), straight)
        middle = seen_from(straight, "a" * 50)
        self.assertEqual((len(middle[0]), middle[1]), (201, "a" * 150))
        wide = wide_tread(201)
        for place in wide[0][::40]:
            self.assertEqual(seen_from(wide, place), slow_seen(wide, place))

    def test_no_place_of_it(self):
        for word in ("ab", "abBA", "aA", ""):
            for place in ("A", "b", "abc", "c", "aba", "a" * 200, "a" * 201):
                self.assertRaises(NoPlace, seen_from, tread_of(word), place)
        self.assertRaises(NoPlace, seen_from, path_tread(200), "a" * 201)
        self.assertRaises(NoPlace, seen_from, path_tread(200), "A")

    def test_no_place(self):
        for thing in NO_WORDS + NO_REDUCED:
            with self.subTest(thing=thing):
                self.assertRaises(NoPlace, seen_from, tread_of("aAb"), thing)


class ShiftTest(unittest.TestCase):
    def test_treads(self):
        self.assertEqual(shift_of(tread_of("abBA"), tread_of("Ab")), None)
        self.assertEqual(shift_of(tread_of("abBA"), tread_of("AabB")), "a")
        self.assertEqual(shift_of(tread_of("ab"), tread_of("BA")), "ab")
        self.assertEqual(shift_of(tread_of("ab"), tread_of("abB")), "")
        self.assertEqual(shift_of(tread_of("ab"), tread_of("ba")), None)
        self.assertEqual(shift_of(tread_of(""), tread_of("")), "")
        self.assertEqual(shift_of(tread_of(""), tread_of("a")), None)
        self.assertEqual(shift_of(tread_of("a"), tread_of("")), None)

    def test_both_ways_round_whatever_the_ends(self):
        for tread in sample_treads()[::9]:
            for place in tread[0]:
                seen = seen_from(tread, place)
                for end in seen[0][::7]:
                    other = (seen[0], end)
                    self.assertEqual(shift_of(tread, other), place)
                    self.assertEqual(shift_of(other, tread), back(place))
                    self.assertEqual(seen_from(tread, shift_of(tread, other))[0], other[0])

    def test_all_small_ones(self):
        treads = treads_within(tread_of("abBcCAbB")[0]) + treads_within(tread_of("AabB")[0])
        for one, other in itertools.product(treads, repeat=2):
            places = [place for place in one[0] if slow_seen(one, place)[0] == other[0]]
            self.assertEqual(shift_of(one, other), places[0] if places else None)

    def test_great_ones(self):
        straight = path_tread(200)
        self.assertEqual(shift_of(straight, seen_from(straight, "a" * 200)), "a" * 200)
        self.assertEqual(shift_of(straight, seen_from(straight, "a" * 77)), "a" * 77)
        self.assertIsNone(shift_of(straight, path_tread(199)))
        self.assertIsNone(shift_of(path_tread(199), straight))
        self.assertIsNone(shift_of(straight, wide_tread(201)))


class ErrorsTest(unittest.TestCase):
    def test_no_tread(self):
        tread = tread_of("a")
        for thing in NO_TREADS + (path_tread(201), wide_tread(202)):
            with self.subTest(thing=thing):
                for function in FUNCTIONS:
                    self.assertRaises(NoTread, function, thing, tread)
                    self.assertRaises(NoTread, function, tread, thing)
                self.assertRaises(NoTread, spare_of, thing)
                self.assertRaises(NoTread, seen_from, thing, "")

    def test_the_earliest_one(self):
        for tread, place in itertools.product((None, "a", [], [("",), ""], path_tread(201)), (None, True, "aA", "x")):
            self.assertRaises(NoTread, seen_from, tread, place)

    def test_too_great_comes_last(self):
        for thing in NO_TREADS:
            self.assertRaises(NoTread, least_over, wide_tread(201), thing)
            self.assertRaises(NoTread, least_over, thing, path_tread(200))


class ArgumentsTest(unittest.TestCase):
    def test_by_their_names(self):
        one, other = tread_of("aAbB"), tread_of("aA")
        self.assertIs(treads_all(other=other, one=one), True)
        self.assertEqual(least_over(other=other, one=one), one)
        self.assertEqual(common(other=other, one=one), other)
        self.assertEqual(spare_of(tread=tread_of("ab")), tread_of("abBA"))
        self.assertEqual(seen_from(place="a", tread=other), tread_of("A"))
        self.assertEqual(shift_of(other=tread_of("A"), one=tread_of("a")), "a")

    def test_they_stay_as_they_are(self):
        one, other, third = tread_of("abBc"), tread_of("acdD"), tread_of("bB")
        was = repr((one, other, third))
        for _ in range(2):
            self.assertEqual(least_over(one, other), tread_of("abBcdD"))
            self.assertEqual(common(one, other), tread_of("ac"))
            self.assertIs(treads_all(one, other), False)
            self.assertEqual(spare_of(one), tread_of("abBcCA"))
            self.assertEqual(seen_from(one, "ab"), tread_of("BAac"))
            self.assertEqual(shift_of(third, tread_of("B")), "b")
        self.assertEqual(repr((one, other, third)), was)
        thing = [["", "a"], "a"]
        for function in FUNCTIONS:
            self.assertRaises(NoTread, function, thing, one)
            self.assertRaises(NoTread, function, one, thing)
        self.assertRaises(NoPlace, seen_from, one, thing)
        self.assertEqual(thing, [["", "a"], "a"])


class AllTreadsTest(unittest.TestCase):
    """Promise [14], where it speaks of orders."""

    def test_spare_treads_go_in_any_order(self):
        spares = [spare_of(tread) for tread in sample_treads()[::3]]
        for one, other in itertools.product(spares, repeat=2):
            self.assertEqual(product(one, other), product(other, one))
            self.assertEqual(product(one, other), least_over(one, other))

    def test_treads_all_by_products(self):
        for one, other in itertools.product(small_treads() + sample_treads()[::4], repeat=2):
            self.assertIs(treads_all(one, other), one == product(spare_of(one), other))


if __name__ == "__main__":
    unittest.main()
