"""The examples of the document, as they stand there."""

import unittest

from solvedtreads.errors import NoWord


class ExamplesTest(unittest.TestCase):
    def test_words(self):
        from solvedtreads.words import back, behind, is_place, reduced
        self.assertEqual(
            [back("abC"), reduced("abBAc"), behind("ab", "Bc"), is_place("aAb")], ['cBA', 'c', 'ac', False],
        )

    def test_treads(self):
        from solvedtreads.treads import alike, least_word, tread_of
        self.assertEqual(
            [tread_of("aAb"), alike("aAbB", "bBaA"), alike("aA", ""), least_word(tread_of("bBaAa"))],
            [(('', 'a', 'b'), 'b'), True, False, 'bBa'],
        )

    def test_rests(self):
        from solvedtreads.treads import least_word, rest_word, tread_of
        tread = tread_of("abBc")
        self.assertEqual(
            [rest_word("a", tread), rest_word("b", tread), rest_word("ac", tread), len(least_word(tread))],
            ['bBc', None, 'CbBc', 4],
        )

    def test_no_word(self):
        from solvedtreads.treads import tread_of
        with self.assertRaises(NoWord):
            tread_of("a b")

    def test_products(self):
        from solvedtreads.products import back_of, power, product
        from solvedtreads.treads import tread_of
        one = tread_of("ab")
        self.assertEqual(
            [product(one, back_of(one)), power(tread_of("bBa"), 2), power(one, 0)],
            [(('', 'a', 'ab'), ''), (('', 'a', 'b', 'aa', 'ab'), 'aa'), (('',), '')],
        )


if __name__ == "__main__":
    unittest.main()
