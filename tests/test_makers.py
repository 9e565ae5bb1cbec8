"""Promise [9]: what makers make, and what bars them from making it."""

import itertools
import unittest

from samples import (
    NO_TREADS, in_order, mixed_word, path_tread, sample_treads, slow_tread, treads_within, wide_tread, words_up_to,
)
from solvedtreads.errors import NoMakers, NoTread
from solvedtreads.makers import needless, same_makers, shows_way, way_of, why_not
from solvedtreads.orders import spare_of
from solvedtreads.products import back_of, power, product
from solvedtreads.treads import tread_of

EMPTY = (("",), "")
A, B = tread_of("a"), tread_of("b")

NO_MAKERS = tuple(thing for thing in NO_TREADS if thing != []) + (
    [], (EMPTY,), (A, B), {0: A}, [None], [True], [0], ["a"], [[]], [()], [A, None], [A, []], [A, "b"], [[A]], [(A,)],
    [A, [("", "b"), "b"]], [A, (["", "b"], "b")], [A, (("", "ab"), "")], [A] * 9, [EMPTY] * 9, [A, B] * 50,
    [A, path_tread(201)], [wide_tread(202)], [A, A, A, A, A, A, A, 7], ("", "a"),
)

MAKERS = (
    ["a"], ["aA"], [""], ["ab"], ["aab"], ["a", "b"], ["aA", "b"], ["aA", "bB"], ["ab", "aA"], ["abA", "bB"],
    ["a", "a"], ["aa", "aaa"], ["aab", "Ab"], ["aAb", "bBa"], ["", "aA"], ["abBA", "a"], ["aAbB", "a", "Ab"],
    ["aAAa", "bA"],
)

# None of these is a row at all.
NO_ROWS = (
    None, True, False, 0, 1, "", "01", (), ((0, 1),), {}, {0: 1}, {(0, 1): True}, [None], [0], [1], ["01"], [[0, 1]],
    [()], [(0,)], [(0, 1, 1)], [(0, 0)], [(0, 2)], [(0, -2)], [(0, True)], [(False, 1)], [(True, 1)], [(0, None)],
    [(None, 1)], [("0", 1)], [(0, "1")], [(0, (1,))], [((0,), 1)], [(-1, 1)], [(-2, 1)], [(2, 1)], [(3, -1)],
    [(10 ** 60, 1)], [(0, 10 ** 60)], [(0, -10 ** 60)], [([], 1)], [(0, [])], [({}, {})], [[(0, 1)]], [((0, 1),)],
    [(0, 1), None], [(0, 1), [0, -1]], [(0, 1), (0, False)], [(0, 1), (0, 1, 0)], [[[[[[(0, 1)]]]]]], [(1, 0), (0, 1)],
    [(0, 1), "a"], ["a", (0, 1)], [(0, 1), 1], [{0: 1}],
)


def put_together(makers, row):
    """Return what a row of makers and backs makes, by product and back_of."""
    answer = EMPTY
    for number, sign in row:
        answer = product(answer, makers[number] if sign == 1 else back_of(makers[number]))
    return answer


def slow_made(makers, places):
    """Return all treads within some places that rows make which stay within."""
    factors = makers + [back_of(maker) for maker in makers]
    made = [EMPTY]
    for tread in made:
        for factor in factors:
            following = product(tread, factor)
            if set(following[0]) <= set(places) and following not in made:
                made.append(following)
    return made


def slow_bar(tread, made):
    """Go by the words of the document: why a tread is not made, None if it is."""
    if tread in made:
        return None
    ends = {end for places, end in made}
    if tread[1] not in ends:
        return ("end", in_order(ends))
    trodden = {place for places, end in made for place in places}
    return ("place", [place for place in tread[0] if place not in trodden][0])


def makers_of(words):
    """Return the makers that are the treads of words."""
    return [slow_tread(word) for word in words]


class WayTest(unittest.TestCase):
    def check_row(self, makers, tread, row):
        """Look at a row that way_of told."""
        self.assertIs(type(row), list)
        self.assertLessEqual(len(row), 20000)
        for member in row:
            self.assertEqual([type(member), type(member[0]), type(member[1])], [tuple, int, int])
            self.assertIn(member[0], range(len(makers)))
            self.assertIn(member[1], (1, -1))
        self.assertEqual(put_together(makers, row), tread)
        self.assertIs(shows_way(makers, tread, row), True)

    def test_treads(self):
        makers = [A, B]
        for word in ("", "a", "ab", "aA", "abBA", "BAb", "aabBAbBB", "abABbBa"):
            self.check_row(makers, tread_of(word), way_of(makers, tread_of(word)))
        self.assertEqual(way_of(makers, EMPTY), [])
        self.assertIsNone(way_of(makers, tread_of("c")))
        self.assertIsNone(way_of([tread_of("aA")], A))
        self.assertIsNone(way_of([tread_of("aA"), tread_of("bB")], tread_of("baAB")))

    def test_all_small_ones(self):
        for words in MAKERS:
            makers = makers_of(words)
            for places in {slow_tread(word)[0] for word in words_up_to(3, "aAb") + ["aabB", "abBAb", "aabABBAA"]}:
                made = slow_made(makers, places)
                for end in places:
                    tread = (places, end)
                    bar = slow_bar(tread, made)
                    self.assertEqual(why_not(makers, tread), bar)
                    row = way_of(makers, tread)
                    if bar is None:
                        self.check_row(makers, tread, row)
                    else:
                        self.assertIsNone(row)

    def test_makers_that_leave_all_ways_to_others(self):
        # Of a tread with many places these makers go by far the most of all ways.
        for words, pieces in (
            (["a", "b", "c", "d"], ["a", "b", "C", "dD", "cC"]), (["ab", "bA"], ["ab", "BA", "bA", "aB"]),
            (["aAb", "bcC", "dDBa"], ["aAb", "bcC", "dDBa", "AbdD", "cCB", "BaA"]),
            (["abA", "bB", "cCa", "AcC", "dD", "ddDD", "b", ""], ["abA", "dD", "cCa", "ddDDAcC", "B", "bB"]),
        ):
            makers = makers_of(words)
            for seed in range(6):
                tread = slow_tread("".join(pieces[ord(k) - 65] for k in mixed_word(seed, 40, "ABCDEF"[:len(pieces)])))
                self.check_row(makers, tread, way_of(makers, tread))
                self.assertIsNone(why_not(makers, tread))

    def test_great_ones(self):
        steps = makers_of("abcd")
        for tread in (path_tread(200), spare_of(path_tread(200)), wide_tread(201), slow_tread("aB" * 60 + "bA" * 30)):
            self.check_row(steps, tread, way_of(steps, tread))
        both = slow_tread("a" * 100 + "A" * 100 + "b" * 100)
        for end in (both[1], "", "a" * 100, "b" * 50):
            self.check_row(steps, (both[0], end), way_of(steps, (both[0], end)))
        long = [path_tread(199), A]
        self.check_row(long, path_tread(200), way_of(long, path_tread(200)))
        self.assertIsNone(way_of([path_tread(150)], path_tread(200)))
        self.assertEqual(way_of([wide_tread(201)], wide_tread(200)), None)
        self.check_row([wide_tread(201)], wide_tread(201), way_of([wide_tread(201)], wide_tread(201)))

    def test_rows_are_no_longer_than_due(self):
        steps = makers_of("abcd")
        straight, wide = path_tread(200), wide_tread(201)
        self.assertEqual(way_of(steps, straight), [(0, 1)] * 200)
        self.assertEqual(way_of(steps, spare_of(straight)), [(0, 1)] * 200 + [(0, -1)] * 200)
        self.assertEqual(len(way_of(steps, wide)), 400)
        two = spare_of(slow_tread("abB" * 50 + "A" * 50 + "AbB" * 50))
        self.assertEqual(len(way_of(steps, two)), 2 * 200)

    def test_one_to_eight_makers(self):
        words = ["a", "aA", "b", "bB", "c", "cC", "d", "dD"]
        for many in range(1, 9):
            makers = makers_of(words[:many])
            tread = makers[-1]
            for maker in makers:
                tread = product(tread, maker)
            self.check_row(makers, tread, way_of(makers, tread))
            self.assertIsNone(why_not(makers, tread))

    def test_makers_twice(self):
        for many in range(1, 9):
            makers = [tread_of("ab")] * many
            for e in range(-4, 5):
                tread = power(makers[0], e)
                self.check_row(makers, tread, way_of(makers, tread))
            self.assertEqual(why_not(makers, A), ("end", ("",)))

    def test_the_empty_words_maker(self):
        for makers in ([EMPTY], [EMPTY, EMPTY], [EMPTY] * 8):
            self.check_row(makers, EMPTY, way_of(makers, EMPTY))
            self.assertIsNone(way_of(makers, A))
            self.assertEqual(why_not(makers, A), ("end", ("",)))
            self.assertEqual(why_not(makers, tread_of("aA")), ("place", "a"))
        for makers in ([EMPTY, A], [A, EMPTY]):
            self.check_row(makers, path_tread(20), way_of(makers, path_tread(20)))

    def test_what_is_made_by_backs_alone(self):
        makers = makers_of(["abB"])
        self.check_row(makers, tread_of("bBA"), way_of(makers, tread_of("bBA")))
        self.check_row(makers, tread_of("bBAbBA"), way_of(makers, tread_of("bBAbBA")))
        self.assertIsNone(way_of(makers, A))


class ShowsTest(unittest.TestCase):
    def test_rows(self):
        makers = makers_of(["aA", "b"])
        goal = tread_of("baAB")
        self.assertIs(shows_way(makers, goal, [(1, 1), (0, 1), (1, -1)]), True)
        self.assertIs(shows_way(makers, goal, [(1, 1), (0, -1), (1, -1)]), True)
        self.assertIs(shows_way(makers, goal, [(1, 1), (0, 1), (0, 1), (1, -1), (1, 1), (1, -1)]), True)
        self.assertIs(shows_way(makers, goal, [(1, 1), (0, 1)]), False)
        self.assertIs(shows_way(makers, goal, [(1, 1), (1, -1)]), False)
        self.assertIs(shows_way(makers, goal, [(0, 1), (1, 1), (1, -1)]), False)

    def test_all_short_rows(self):
        for words in (["a", "b"], ["aA", "b"], ["ab", "Ab"], ["aab", ""], ["abA"]):
            makers = makers_of(words)
            members = [(number, sign) for number in range(len(makers)) for sign in (1, -1)]
            rows = [list(row) for n in range(5) for row in itertools.product(members, repeat=n)]
            made = [put_together(makers, row) for row in rows]
            for tread in sorted(set(made))[::9] + [EMPTY, A, tread_of("aabB")]:
                for row, answer in zip(rows, made):
                    self.assertIs(shows_way(makers, tread, row), answer == tread)

    def test_rows_of_no_member(self):
        for makers in ([A], [EMPTY], [tread_of("aA")] * 8):
            self.assertIs(shows_way(makers, EMPTY, []), True)
            for tread in (A, tread_of("aA"), path_tread(200)):
                self.assertIs(shows_way(makers, tread, []), False)

    def test_as_many_members(self):
        there = [(0, 1), (0, -1)]
        tread = tread_of("aA")
        for makers in ([A], [A, B]):
            self.assertIs(shows_way(makers, tread, there * 10000), True)
            self.assertIs(shows_way(makers, tread, there * 10000 + [(0, 1)]), False)
            self.assertIs(shows_way(makers, A, there * 9999 + [(0, 1)]), True)
            self.assertIs(shows_way(makers, A, there * 9999 + [(0, 1), (0, 1)]), False)
            self.assertIs(shows_way(makers, A, there * 10000 + [(0, 1)]), False)
            self.assertIs(shows_way(makers, A, there * 50000 + [(0, 1)]), False)
        self.assertIs(shows_way([EMPTY], EMPTY, [(0, 1)] * 20000), True)
        self.assertIs(shows_way([EMPTY], EMPTY, [(0, 1)] * 20001), False)
        wide = wide_tread(201)
        self.assertIs(shows_way([wide], wide, [(0, 1)] * 20000), True)
        self.assertIs(shows_way([wide], wide, [(0, 1)] * 20001), False)

    def test_rows_that_lead_away_and_come_back(self):
        makers = [A, B, tread_of("aA")]
        self.assertIs(shows_way(makers, A, [(0, 1), (0, 1), (0, -1)]), False)
        self.assertIs(shows_way(makers, A, [(1, 1), (1, -1), (0, 1)]), False)
        self.assertIs(shows_way(makers, A, [(0, 1), (2, 1)]), False)
        self.assertIs(shows_way(makers, A, [(2, 1), (0, 1)]), True)
        self.assertIs(shows_way(makers, A, [(0, -1), (0, 1), (0, 1)]), False)
        self.assertIs(shows_way(makers, tread_of("abB"), [(0, 1), (1, 1), (1, -1)]), True)
        self.assertIs(shows_way(makers, tread_of("ab"), [(0, 1), (1, 1), (1, -1)]), False)
        self.assertIs(shows_way([path_tread(200)], path_tread(200), [(0, 1), (0, 1), (0, -1)]), False)

    def test_no_rows(self):
        for makers, tread in (([A, B], A), ([EMPTY, A], EMPTY), ([A, tread_of("aA")], tread_of("aA"))):
            for thing in NO_ROWS + (A, (A,), [A], tread, makers):
                with self.subTest(thing=thing):
                    self.assertIs(shows_way(makers, tread, thing), False)

    def test_one_wrong_member(self):
        row = [(0, 1), (0, -1), (0, 1)]
        self.assertIs(shows_way([A], A, row), True)
        for at, thing in itertools.product(range(4), (None, [0, 1], (0, True), (False, 1), (1, 1), (-1, 1), (0, 1, 1))):
            self.assertIs(shows_way([A], A, row[:at] + [thing] + row[at:]), False)
            self.assertIs(shows_way([A], A, row[:at] + [thing] + row[at + 1:]), False)
        # True and False stand for numbers nowhere.
        self.assertIs(shows_way([A, A], A, [(1, 1)]), True)
        self.assertIs(shows_way([A, A], A, [(True, 1)]), False)
        self.assertIs(shows_way([A, A], A, [(1, True)]), False)


class WhyNotTest(unittest.TestCase):
    def test_ends(self):
        self.assertEqual(why_not([tread_of("aA")], A), ("end", ("",)))
        self.assertEqual(why_not([tread_of("aa")], tread_of("aaa")), ("end", ("", "aa")))
        self.assertEqual(why_not([tread_of("aa")], tread_of("AAAaaaaaA")), ("end", ("", "AA", "aa")))
        self.assertEqual(why_not([A], tread_of("aab")), ("end", ("", "a", "aa")))
        self.assertEqual(why_not([A, B], tread_of("abc")), ("end", ("", "a", "ab")))
        self.assertEqual(why_not(makers_of(["abB", "bB"]), tread_of("ab")), ("end", ("", "a")))
        # b can be walked at the empty place, but not at a, where it would leave the tread.
        self.assertEqual(why_not([A, B], tread_of("bBac")), ("end", ("", "a", "b")))

    def test_places(self):
        self.assertEqual(why_not(makers_of(["aA", "bB"]), tread_of("baAB")), ("place", "ba"))
        self.assertEqual(why_not([A], tread_of("abB")), ("place", "ab"))
        self.assertEqual(why_not([A], tread_of("BbabB")), ("place", "B"))
        self.assertEqual(why_not([A], tread_of("dDbBa")), ("place", "b"))
        self.assertEqual(why_not([tread_of("bBa")], tread_of("bBaaA")), ("place", "aa"))

    def test_none(self):
        for makers in ([A], [tread_of("aA"), B], [EMPTY]):
            self.assertIsNone(why_not(makers, EMPTY))
            for maker in makers:
                self.assertIsNone(why_not(makers, maker))
                self.assertIsNone(why_not(makers, back_of(maker)))

    def test_great_ones(self):
        self.assertEqual(why_not([path_tread(150)], path_tread(200)), ("end", ("", "a" * 150)))
        self.assertEqual(why_not([spare_of(path_tread(150))], spare_of(path_tread(200))), ("place", "a" * 151))
        self.assertEqual(why_not([path_tread(7)], path_tread(200)), ("end", path_tread(200)[0][::7]))
        self.assertEqual(why_not(makers_of("abcABC"), wide_tread(201)), ("place", "D"))


class NeedlessTest(unittest.TestCase):
    def test_makers(self):
        self.assertEqual(needless(makers_of(["bB", "b"])), [0])
        self.assertEqual(needless(makers_of(["b", "bB"])), [1])
        self.assertEqual(needless(makers_of(["a", "b", "abBAb", "A", "c"])), [0, 2, 3])
        self.assertEqual(needless(makers_of(["aa", "aaa"])), [])
        self.assertEqual(needless(makers_of(["aa", "aaa", "a"])), [0, 1])
        self.assertEqual(needless(makers_of(["ab", "BA"])), [0, 1])
        self.assertEqual(needless(makers_of(["ab", "ab", "ab"])), [0, 1, 2])

    def test_one_maker(self):
        self.assertEqual(needless([A]), [])
        self.assertEqual(needless([tread_of("aA")]), [])
        self.assertEqual(needless([wide_tread(201)]), [])
        self.assertEqual(needless([EMPTY]), [0])

    def test_with_the_empty_words_maker(self):
        self.assertEqual(needless([EMPTY, EMPTY]), [0, 1])
        self.assertEqual(needless([EMPTY, A]), [0])
        self.assertEqual(needless([A, EMPTY, B]), [1])
        self.assertEqual(needless([A] * 7 + [EMPTY]), [0, 1, 2, 3, 4, 5, 6, 7])

    def test_all_small_ones(self):
        more = (["a", "aA", "aaA"], ["aab", "b", "aa", ""], ["abBA", "bB", "a"], ["ab", "bB", "a", "aA"])
        for words in MAKERS + more:
            makers = makers_of(words)
            expected = []
            for number, maker in enumerate(makers):
                if maker in slow_made(makers[:number] + makers[number + 1:], maker[0]):
                    expected.append(number)
            self.assertEqual(needless(makers), expected)

    def test_a_new_list(self):
        makers = makers_of(["bB", "b"])
        first = needless(makers)
        first.append(7)
        self.assertEqual(needless(makers), [0])


class SameTest(unittest.TestCase):
    def test_makers(self):
        self.assertEqual(same_makers([B], [tread_of("bB")]), (0, 0))
        self.assertEqual(same_makers([tread_of("bB")], [B]), (1, 0))
        self.assertIsNone(same_makers([A], [tread_of("A")]))
        self.assertIsNone(same_makers([A, B], makers_of(["ab", "B", "A", ""])))
        self.assertEqual(same_makers([A, B], makers_of(["ab", "bB"])), (0, 0))
        self.assertEqual(same_makers(makers_of(["ab", "bB"]), [A, B]), (1, 0))
        self.assertEqual(same_makers([A], [A, tread_of("aA"), B, tread_of("c")]), (1, 2))
        self.assertEqual(same_makers([A, tread_of("aA"), B, tread_of("c")], [A]), (0, 2))
        # Neither list makes all of the other: the first list comes first.
        self.assertEqual(same_makers([A, B], makers_of(["c", "a"])), (0, 1))
        self.assertEqual(same_makers(makers_of(["aa"]), makers_of(["aaa"])), (0, 0))

    def test_the_same(self):
        self.assertIsNone(same_makers([EMPTY], [EMPTY] * 8))
        self.assertEqual(same_makers([EMPTY], [A]), (1, 0))
        self.assertEqual(same_makers([A], [EMPTY]), (0, 0))
        self.assertIsNone(same_makers([A, EMPTY], [A]))
        self.assertIsNone(same_makers([A] * 8, [A]))
        makers = makers_of(["aab", "bB"])
        self.assertIsNone(same_makers(makers, makers))
        self.assertIsNone(same_makers(makers, makers[::-1]))

    def test_all_small_ones(self):
        for words, others in itertools.product(MAKERS, repeat=2):
            one, other = makers_of(words), makers_of(others)
            rows = [(0, k) for k, maker in enumerate(one) if maker not in slow_made(other, maker[0])]
            rows = rows + [(1, k) for k, maker in enumerate(other) if maker not in slow_made(one, maker[0])]
            self.assertEqual(same_makers(one, other), rows[0] if rows else None)


class ErrorsTest(unittest.TestCase):
    def test_no_makers(self):
        for thing in NO_MAKERS:
            with self.subTest(thing=thing):
                self.assertRaises(NoMakers, way_of, thing, A)
                self.assertRaises(NoMakers, shows_way, thing, A, [])
                self.assertRaises(NoMakers, why_not, thing, A)
                self.assertRaises(NoMakers, needless, thing)
                self.assertRaises(NoMakers, same_makers, thing, [A])
                self.assertRaises(NoMakers, same_makers, [A], thing)

    def test_no_tread(self):
        for thing in NO_TREADS + (path_tread(201), wide_tread(202), [A]):
            with self.subTest(thing=thing):
                for makers in ([A], [EMPTY], [A, B] * 4):
                    self.assertRaises(NoTread, way_of, makers, thing)
                    self.assertRaises(NoTread, why_not, makers, thing)
                    self.assertRaises(NoTread, shows_way, makers, thing, [])
                    self.assertRaises(NoTread, shows_way, makers, thing, None)

    def test_the_earliest_one(self):
        no_makers = (None, [], (A,), [A] * 9, [A, 1])
        for makers, thing in itertools.product(no_makers, (None, "a", [], True, path_tread(201))):
            self.assertRaises(NoMakers, way_of, makers, thing)
            self.assertRaises(NoMakers, why_not, makers, thing)
            self.assertRaises(NoMakers, shows_way, makers, thing, thing)
            self.assertRaises(NoMakers, same_makers, makers, thing)


class ArgumentsTest(unittest.TestCase):
    def test_by_their_names(self):
        self.assertEqual(way_of(tread=A, makers=[A]), [(0, 1)])
        self.assertIs(shows_way(thing=[(0, 1)], tread=A, makers=[A]), True)
        self.assertEqual(why_not(tread=B, makers=[A]), ("end", ("",)))
        self.assertEqual(needless(makers=[A, EMPTY]), [1])
        self.assertEqual(same_makers(other=[B], one=[EMPTY]), (1, 0))

    def test_they_stay_as_they_are(self):
        makers, others = makers_of(["aA", "b", ""]), makers_of(["b", "a"])
        goal = tread_of("baAB")
        row = [(1, 1), (0, 1), (1, -1)]
        rows = [[(0, 1), (0, -1)], [[(0, 1)], {"a": [1]}], None]
        was = repr((makers, others, goal, row, rows))
        for _ in range(2):
            self.assertEqual(put_together(makers, way_of(makers, goal)), goal)
            self.assertIs(shows_way(makers, goal, row), True)
            self.assertEqual([shows_way(makers, goal, thing) for thing in rows], [False, False, False])
            self.assertEqual(why_not(makers, tread_of("ba")), ("end", ("", "b")))
            self.assertEqual(needless(makers), [2])
            self.assertEqual(same_makers(makers, others), (1, 1))
            self.assertRaises(NoMakers, needless, rows)
        self.assertEqual(repr((makers, others, goal, row, rows)), was)

    def test_ways_are_new_and_told_again(self):
        makers, goal = makers_of(["aA", "b"]), tread_of("baAbaA")
        row = way_of(makers, goal)
        same = list(row)
        row.clear()
        self.assertEqual(way_of(makers, goal), same)
        self.assertEqual(way_of(makers, goal), same)


class AllMakersTest(unittest.TestCase):
    """Promise [14], where it speaks of makers."""

    def test_what_is_made_of_what_is_made(self):
        for words in MAKERS:
            makers = makers_of(words)
            made = slow_made(makers, tread_of("aabBABbBAAaAb")[0])
            middle = [made[len(made) // 2], made[-1]]
            for tread in treads_within(tread_of("aabBABbB")[0])[::3] + sample_treads()[::9]:
                if way_of(middle, tread) is not None:
                    self.assertIsNotNone(way_of(makers, tread))
                    self.assertIsNone(why_not(makers, tread))
            for tread in made[::3]:
                self.assertIs(shows_way(makers, tread, way_of(makers, tread)), True)


if __name__ == "__main__":
    unittest.main()
