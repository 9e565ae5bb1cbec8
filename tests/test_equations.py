"""Promise [8]: equations, their solutions, and how these are counted and numbered."""

import itertools
import unittest

from samples import (
    NO_INTEGERS, NO_TREADS, in_order, mixed_word, path_tread, sample_treads, slow_solutions, slow_tread, wide_tread,
    words_up_to,
)
from solvedtreads.equations import number_of, solution_at, solutions
from solvedtreads.errors import NoNumber, NoTread
from solvedtreads.orders import spare_of, treads_all
from solvedtreads.products import product
from solvedtreads.treads import is_tread, tread_of

EMPTY = (("",), "")


def comes_first(one, other):
    """Go by the words of the document: which of two solutions comes first."""
    for place in in_order(set(one[0]) | set(other[0])):
        if (place in one[0]) != (place in other[0]):
            return place not in one[0]
    raise AssertionError("they are the same")


class SolutionsTest(unittest.TestCase):
    def test_treads(self):
        a, empty = tread_of("a"), tread_of("")
        self.assertEqual(solutions(a, empty, tread_of("ab")), ((("", "b"), "b"), (("", "A", "b"), "b"), 2))
        self.assertEqual(solutions(empty, a, tread_of("ab")), None)
        self.assertEqual(solutions(empty, tread_of("b"), tread_of("ab")), (tread_of("a"), tread_of("abB"), 2))
        self.assertEqual(
            solutions(a, empty, tread_of("abBcC")), (tread_of("bBcC"), (("", "A", "b", "c"), ""), 2),
        )

    def test_none(self):
        for one, other, goal in (
            ("b", "", "a"), ("", "b", "a"), ("", "b", "aA"), ("aA", "", ""), ("", "aA", ""), ("bB", "", "aAa"),
            ("a", "aA", "a"), ("a", "", "A"), ("", "Aa", "ab"), ("a", "b", "a"),
        ):
            row = (tread_of(one), tread_of(other), tread_of(goal))
            self.assertIsNone(solutions(*row))
            for tread in sample_treads()[::9] + [EMPTY, tread_of(goal)]:
                self.assertIsNone(number_of(*row, tread))

    def test_just_one(self):
        for tread in sample_treads() + [path_tread(200), wide_tread(201)]:
            self.assertEqual(solutions(EMPTY, EMPTY, tread), (tread, tread, 1))
            self.assertEqual(solution_at(EMPTY, EMPTY, tread, 0), tread)
            self.assertEqual(number_of(EMPTY, EMPTY, tread, tread), 0)

    def test_all_small_ones(self):
        treads = [slow_tread(word) for word in words_up_to(2, "aAb")]
        counts = {}
        for one, other in itertools.product(treads, repeat=2):
            for goal in {slow_tread(word) for word in words_up_to(3, "aAb")}:
                row = (one, other, goal)
                found = slow_solutions(*row)
                counts[len(found)] = counts.get(len(found), 0) + 1
                self.check_found(row, found)
        self.assertGreater(min(counts.get(k, 0) for k in (0, 1, 2, 3, 4)), 0)

    def test_larger_ones(self):
        for words in (
            ("abBA", "cC", "abBcCdDAcC"), ("aAbB", "bB", "aAbBcCdD"), ("abcC", "", "abcCbBBA"),
            ("abBcC", "cC", "abBcCdDcdDC"), ("aAbBcC", "", "abBcCAbBcC"), ("aA", "Aa", "aAAbBcCadDbB"),
            ("abBcCdDA", "", "abBcCdDA"), ("abBcCdDAcC", "b", "abBcCdDAcCb"), ("abBbbAAaaB", "BaA", "abBbbAAaaBBaA"),
        ):
            row = tuple(slow_tread(word) for word in words)
            found = slow_solutions(*row)
            self.assertGreater(len(found), 0, words)
            self.check_found(row, found)

    def check_found(self, row, found):
        """Compare with the ordered list of all solutions."""
        if not found:
            self.assertIsNone(solutions(*row))
            return
        least, most, count = solutions(*row)
        self.assertEqual(count, len(found))
        self.assertIn(least, found)
        self.assertIn(most, found)
        for number, tread in enumerate(found):
            self.assertIs(treads_all(tread, least), True)
            self.assertIs(treads_all(most, tread), True)
            self.assertEqual(solution_at(*row, number), tread)
            self.assertEqual(number_of(*row, tread), number)
        for number in (-1, count, count + 1):
            self.assertRaises(NoNumber, solution_at, *row, number)

    def test_they_hold_by_product(self):
        for seed in range(20):
            one, other = tread_of(mixed_word(seed, 12)), tread_of(mixed_word(seed + 70, 12))
            unknown = tread_of(mixed_word(seed + 40, 20))
            goal = product(product(one, unknown), other)
            least, most, count = solutions(one, other, goal)
            self.assertIsInstance(number_of(one, other, goal, unknown), int)
            for number in {0, count // 3, count // 2, count - 1}:
                tread = solution_at(one, other, goal, number)
                self.assertEqual(product(product(one, tread), other), goal)
                self.assertIs(is_tread(tread), True)
                self.assertIs(treads_all(most, tread) and treads_all(tread, least), True)

    def test_no_others(self):
        one, other, goal = tread_of("abBA"), tread_of("cC"), tread_of("abBAcCdD")
        least, most, count = solutions(one, other, goal)
        self.assertEqual((least, most, count), (tread_of("dD"), tread_of("abBAcCdD"), 6))
        samples = [tread for tread in sample_treads() if tread != least]
        for tread in samples + [tread_of("dDb"), tread_of("dDbB"), tread_of("aA"), tread_of("dDabBAbB")]:
            self.assertIsNone(number_of(one, other, goal, tread))
        for tread in ((least[0], "d"), (most[0], "a"), (most[0], "ab")):
            self.assertIsNone(number_of(one, other, goal, tread))


class NumbersTest(unittest.TestCase):
    def test_their_order(self):
        goal = (tread_of("aabBAAbcCdDB")[0], "")
        row = (goal, EMPTY, goal)
        count = solutions(*row)[2]
        # None, one, two or three of a, aa, aab; not b, or b with any of bc, bd.
        self.assertEqual(count, 4 * 5)
        treads = [solution_at(*row, number) for number in range(count)]
        self.assertEqual(treads[0], EMPTY)
        self.assertEqual(treads[-1], goal)
        self.assertEqual(len(set(treads)), count)
        for one, other in itertools.combinations(treads, 2):
            self.assertIs(comes_first(one, other), True)

    def test_the_first_place_counts_most(self):
        # The place a, ahead of b in the order, counts for more than b and its like.
        goal = (("", "a", "b", "bb"), "")
        found = [solution_at(goal, EMPTY, goal, number)[0] for number in range(6)]
        self.assertEqual(found, [
            ("",), ("", "b"), ("", "b", "bb"), ("", "a"), ("", "a", "b"), ("", "a", "b", "bb"),
        ])
        goal = (("", "B", "a", "aa"), "")
        found = [solution_at(goal, EMPTY, goal, number)[0] for number in range(6)]
        self.assertEqual(found, [
            ("",), ("", "a"), ("", "a", "aa"), ("", "B"), ("", "B", "a"), ("", "B", "a", "aa"),
        ])

    def test_great_counts(self):
        star = (in_order([""] + [place + "a" * k for place in "abcdBCD" for k in range(28)]), "")
        wide, straight = wide_tread(201), (path_tread(200)[0], "")
        for whole, expected in ((star, 29 ** 7), (straight, 201), (wide, None)):
            row = (whole, EMPTY, whole)
            least, most, count = solutions(*row)
            self.assertEqual((least, most), (EMPTY, whole))
            if expected is not None:
                self.assertEqual(count, expected)
            for number in (0, 1, 2, count // 7, count // 2, count - 2, count - 1):
                self.assertEqual(number_of(*row, solution_at(*row, number)), number)
            self.assertEqual(solution_at(*row, 0), least)
            self.assertEqual(solution_at(*row, count - 1), most)
            for number in (-1, -2, -count, count, count + 1, 10 * count, 10 ** 60 + count):
                self.assertRaises(NoNumber, solution_at, *row, number)
        self.assertGreater(solutions(wide, EMPTY, wide)[2], 2 ** 160)

    def test_long_treads(self):
        for seed in range(6):
            whole = spare_of(tread_of(mixed_word(seed, 200)))
            row = (whole, tread_of(""), whole)
            count = solutions(*row)[2]
            before = None
            for number in range(0, count, max(1, count // 12)):
                tread = solution_at(*row, number)
                self.assertEqual(number_of(*row, tread), number)
                self.assertEqual(product(product(whole, tread), EMPTY), whole)
                if before is not None:
                    self.assertIs(comes_first(before, tread), True)
                before = tread

    def test_no_number(self):
        row = (tread_of("a"), EMPTY, tread_of("ab"))
        for thing in NO_INTEGERS + (-1, 2, 3, 10 ** 60, -10 ** 60):
            with self.subTest(thing=thing):
                self.assertRaises(NoNumber, solution_at, *row, thing)
        self.assertEqual(solution_at(*row, 1), tread_of("Aab"))

    def test_no_number_of_none(self):
        row = (tread_of("b"), EMPTY, tread_of("ab"))
        for thing in NO_INTEGERS + (-1, 0, 1, 2):
            self.assertRaises(NoNumber, solution_at, *row, thing)


class ErrorsTest(unittest.TestCase):
    def test_no_tread(self):
        tread = tread_of("a")
        for thing in NO_TREADS + (path_tread(201), wide_tread(202)):
            with self.subTest(thing=thing):
                for row in ((thing, tread, tread), (tread, thing, tread), (tread, tread, thing)):
                    self.assertRaises(NoTread, solutions, *row)
                    self.assertRaises(NoTread, solution_at, *row, 0)
                    self.assertRaises(NoTread, number_of, *row, tread)
                self.assertRaises(NoTread, number_of, tread, tread, tread, thing)
                self.assertRaises(NoTread, number_of, EMPTY, EMPTY, tread, thing)

    def test_the_earliest_one(self):
        tread = tread_of("a")
        for thing, number in itertools.product((None, "a", [("",), ""], path_tread(201)), (None, True, -1, "0", 7)):
            for row in ((thing, tread, tread), (tread, thing, tread), (tread, tread, thing), (thing, thing, thing)):
                self.assertRaises(NoTread, solution_at, *row, number)


class ArgumentsTest(unittest.TestCase):
    def test_by_their_names(self):
        a, ab, b = tread_of("a"), tread_of("ab"), tread_of("b")
        self.assertEqual(solutions(goal=ab, other=EMPTY, one=a), (b, tread_of("Aab"), 2))
        self.assertEqual(solution_at(number=1, goal=ab, other=EMPTY, one=a), tread_of("Aab"))
        self.assertEqual(number_of(tread=b, goal=ab, other=EMPTY, one=a), 0)
        self.assertEqual(solutions(one=EMPTY, other=b, goal=ab), (a, tread_of("abB"), 2))

    def test_they_stay_as_they_are(self):
        row = (tread_of("aA"), tread_of("bB"), tread_of("aAbBcC"))
        was = repr(row)
        for _ in range(2):
            self.assertEqual(solutions(*row), (tread_of("cC"), tread_of("aAbBcC"), 4))
            self.assertEqual(solution_at(*row, 2), tread_of("aAcC"))
            self.assertEqual(number_of(*row, tread_of("bBcC")), 1)
            self.assertIsNone(number_of(*row, tread_of("bB")))
        self.assertEqual(repr(row), was)
        thing = [["", "a"], "a"]
        self.assertRaises(NoTread, solutions, row[0], thing, row[1])
        self.assertRaises(NoTread, number_of, *row, thing)
        self.assertRaises(NoNumber, solution_at, *row, thing)
        self.assertEqual(thing, [["", "a"], "a"])


class AllTreadsTest(unittest.TestCase):
    """Promise [14], where it speaks of equations."""

    def test_the_number_of_solutions_is_what_numbers_reach(self):
        for words in (("abBA", "cC", "abBAcCdD"), ("a", "", "ab"), ("abBcCdDA", "dD", "abBcCdDAdDcC")):
            row = tuple(tread_of(word) for word in words)
            count = solutions(*row)[2]
            treads = [solution_at(*row, number) for number in range(count)]
            self.assertEqual(len(set(treads)), count)
            self.assertEqual([number_of(*row, tread) for tread in treads], list(range(count)))
            self.assertRaises(NoNumber, solution_at, *row, count)


if __name__ == "__main__":
    unittest.main()
