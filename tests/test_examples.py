"""The examples of the document, as they stand there."""

import unittest

from solvedtreads.errors import NoMatch, NoPlace, NoWord


class ExamplesTest(unittest.TestCase):
    def test_words(self):
        from solvedtreads.words import back, behind, is_place, reduced
        self.assertEqual(
            [back("abC"), reduced("abBAc"), behind("ab", "Bc"), is_place("aAb")], ['cBA', 'c', 'ac', False],
        )

    def test_treads(self):
        from solvedtreads.treads import alike, least_word, tread_of
        self.assertEqual(
            [tread_of("aAb"), alike("aAbB", "bBaA"), alike("aA", ""), least_word(tread_of("bBaAa"))],
            [(('', 'a', 'b'), 'b'), True, False, 'bBa'],
        )

    def test_rests(self):
        from solvedtreads.treads import least_word, rest_word, tread_of
        tread = tread_of("abBc")
        self.assertEqual(
            [rest_word("a", tread), rest_word("b", tread), rest_word("ac", tread), len(least_word(tread))],
            ['bBc', None, 'CbBc', 4],
        )

    def test_no_word(self):
        from solvedtreads.treads import tread_of
        with self.assertRaises(NoWord):
            tread_of("a b")

    def test_products(self):
        from solvedtreads.products import back_of, power, product
        from solvedtreads.treads import tread_of
        one = tread_of("ab")
        self.assertEqual(
            [product(one, back_of(one)), power(tread_of("bBa"), 2), power(one, 0)],
            [(('', 'a', 'ab'), ''), (('', 'a', 'b', 'aa', 'ab'), 'aa'), (('',), '')],
        )

    def test_orders(self):
        from solvedtreads.orders import common, least_over, seen_from, shift_of, treads_all
        from solvedtreads.treads import tread_of
        one, other = tread_of("abBA"), tread_of("cCaA")
        seen = seen_from(one, "a")
        self.assertEqual(
            [treads_all(one, other), least_over(one, other), common(one, other), seen, shift_of(one, seen)],
            [False, (('', 'a', 'c', 'ab'), ''), (('', 'a'), ''), (('', 'A', 'b'), 'A'), 'a'],
        )

    def test_roots(self):
        from solvedtreads.roots import root_of, shows_no_root
        from solvedtreads.treads import tread_of
        found = [
            shows_no_root(tread_of("aabB"), 2), shows_no_root(tread_of("baaB"), 2), shows_no_root(tread_of("ab"), 2),
        ]
        self.assertEqual(
            [root_of(tread_of("bBabBa"), 2), found],
            [(('', 'a', 'b'), 'a'), [('place', 'aab'), ('ring', 1), ('end',)]],
        )

    def test_equations(self):
        from solvedtreads.equations import number_of, solution_at, solutions
        from solvedtreads.treads import tread_of
        a, empty, ab = tread_of("a"), tread_of(""), tread_of("ab")
        self.assertEqual(
            [solutions(a, empty, ab), solution_at(a, empty, ab, 0), number_of(a, empty, ab, tread_of("Aab"))],
            [((('', 'b'), 'b'), (('', 'A', 'b'), 'b'), 2), (('', 'b'), 'b'), 1],
        )

    def test_makers(self):
        from solvedtreads.makers import needless, same_makers, shows_way, why_not
        from solvedtreads.treads import tread_of
        loop, other, step = tread_of("aA"), tread_of("bB"), tread_of("b")
        goal = tread_of("baAB")
        found = [why_not([loop], tread_of("a")), why_not([loop, other], goal)]
        shown = shows_way([loop, step], goal, [(1, 1), (0, 1), (1, -1)])
        self.assertEqual(
            [found, shown, needless([other, step]), same_makers([step], [other])],
            [[('end', ('',)), ('place', 'ba')], True, [0], (0, 0)],
        )

    def test_descents(self):
        from solvedtreads.descents import descent, shows_descent
        found = [shows_descent("bBaA", ["bBaA", "aAbB"]), shows_descent("bBaA", ["bBaA"])]
        self.assertEqual(
            [found, shows_descent("aAa", ["aAa", "a"]), descent("a")], [[True, False], True, ['a']],
        )

    def test_walks(self):
        from solvedtreads.walks import Walk
        a = Walk("ab")
        both = Walk("bB") * a
        self.assertEqual(
            [
                both.word(), both.covers(a), a.covers(both), (both & a) == a, len(both), both.end, "b" in both,
                (a ** 2).word(),
            ],
            ['bBab', True, False, True, 4, 'ab', True, 'abab'],
        )

    def test_no_match(self):
        from solvedtreads.walks import Walk
        with self.assertRaises(NoMatch):
            Walk("a") | Walk("b")

    def test_answers(self):
        from solvedtreads.answers import Answers
        from solvedtreads.treads import tread_of
        a = Answers(tread_of("a"), tread_of(""), tread_of("abBcC"))
        self.assertEqual(
            [a.how_many(), a.least(), a.taking("A").how_many(), a.barring("b").least(), tread_of("bBcC") in a],
            [2, (('', 'b', 'c'), ''), 1, None, True],
        )

    def test_answers_beside_others(self):
        from solvedtreads.answers import Answers
        from solvedtreads.treads import tread_of
        empty, ab = tread_of(""), tread_of("ab")
        a, b = Answers(tread_of("a"), empty, ab), Answers(empty, empty, tread_of("b"))
        self.assertEqual(
            [(a & b) == b, a == b, (~b).least(), a.at(1), a.number_of(tread_of("b"))],
            [True, False, (('', 'B'), 'B'), (('', 'A', 'b'), 'b'), 0],
        )

    def test_wishes(self):
        from solvedtreads.answers import Answers
        from solvedtreads.treads import tread_of
        from solvedtreads.wishes import Wishes, trial
        wishes = Wishes(Answers(tread_of("a"), tread_of(""), tread_of("ab")))
        wishes.must("A")
        self.assertEqual(
            [wishes.state(), wishes.open_place(), trial(wishes, ["<", ["-A"], "+c", "-b"]), len(wishes)],
            ['one', None, ['many', ['one'], 'none', 'none'], 1],
        )

    def test_no_place(self):
        from solvedtreads.answers import Answers
        from solvedtreads.treads import tread_of
        from solvedtreads.wishes import Wishes, trial
        wishes = Wishes(Answers(tread_of("a"), tread_of(""), tread_of("ab")))
        with self.assertRaises(NoPlace):
            trial(wishes, ["+b", "b"])


if __name__ == "__main__":
    unittest.main()
