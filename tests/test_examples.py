"""The examples of the document, as they stand there."""

import unittest

from solvedtreads.errors import NoWord


class ExamplesTest(unittest.TestCase):
    def test_words(self):
        from solvedtreads.words import back, behind, is_place, reduced
        self.assertEqual(
            [back("abC"), reduced("abBAc"), behind("ab", "Bc"), is_place("aAb")], ['cBA', 'c', 'ac', False],
        )

    def test_treads(self):
        from solvedtreads.treads import alike, least_word, tread_of
        self.assertEqual(
            [tread_of("aAb"), alike("aAbB", "bBaA"), alike("aA", ""), least_word(tread_of("bBaAa"))],
            [(('', 'a', 'b'), 'b'), True, False, 'bBa'],
        )

    def test_rests(self):
        from solvedtreads.treads import least_word, rest_word, tread_of
        tread = tread_of("abBc")
        self.assertEqual(
            [rest_word("a", tread), rest_word("b", tread), rest_word("ac", tread), len(least_word(tread))],
            ['bBc', None, 'CbBc', 4],
        )

    def test_no_word(self):
        from solvedtreads.treads import tread_of
        with self.assertRaises(NoWord):
            tread_of("a b")

    def test_products(self):
        from solvedtreads.products import back_of, power, product
        from solvedtreads.treads import tread_of
        one = tread_of("ab")
        self.assertEqual(
            [product(one, back_of(one)), power(tread_of("bBa"), 2), power(one, 0)],
            [(('', 'a', 'ab'), ''), (('', 'a', 'b', 'aa', 'ab'), 'aa'), (('',), '')],
        )

    def test_orders(self):
        from solvedtreads.orders import common, least_over, seen_from, shift_of, treads_all
        from solvedtreads.treads import tread_of
        one, other = tread_of("abBA"), tread_of("cCaA")
        seen = seen_from(one, "a")
        self.assertEqual(
            [treads_all(one, other), least_over(one, other), common(one, other), seen, shift_of(one, seen)],
            [False, (('', 'a', 'c', 'ab'), ''), (('', 'a'), ''), (('', 'A', 'b'), 'A'), 'a'],
        )

    def test_roots(self):
        from solvedtreads.roots import root_of, shows_no_root
        from solvedtreads.treads import tread_of
        found = [
            shows_no_root(tread_of("aabB"), 2), shows_no_root(tread_of("baaB"), 2), shows_no_root(tread_of("ab"), 2),
        ]
        self.assertEqual(
            [root_of(tread_of("bBabBa"), 2), found],
            [(('', 'a', 'b'), 'a'), [('place', 'aab'), ('ring', 1), ('end',)]],
        )

    def test_equations(self):
        from solvedtreads.equations import number_of, solution_at, solutions
        from solvedtreads.treads import tread_of
        a, empty, ab = tread_of("a"), tread_of(""), tread_of("ab")
        self.assertEqual(
            [solutions(a, empty, ab), solution_at(a, empty, ab, 0), number_of(a, empty, ab, tread_of("Aab"))],
            [((('', 'b'), 'b'), (('', 'A', 'b'), 'b'), 2), (('', 'b'), 'b'), 1],
        )

    def test_makers(self):
        from solvedtreads.makers import needless, same_makers, shows_way, why_not
        from solvedtreads.treads import tread_of
        loop, other, step = tread_of("aA"), tread_of("bB"), tread_of("b")
        goal = tread_of("baAB")
        found = [why_not([loop], tread_of("a")), why_not([loop, other], goal)]
        shown = shows_way([loop, step], goal, [(1, 1), (0, 1), (1, -1)])
        self.assertEqual(
            [found, shown, needless([other, step]), same_makers([step], [other])],
            [[('end', ('',)), ('place', 'ba')], True, [0], (0, 0)],
        )


if __name__ == "__main__":
    unittest.main()
