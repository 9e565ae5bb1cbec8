"""Promise [11]: walks, what their operators make, and how they change in place."""

import itertools
import unittest

from samples import NO_INTEGERS, NO_WORDS, mixed_word, sample_treads, slow_reduced, slow_tread, words_up_to
from solvedtreads.answers import Answers
from solvedtreads.errors import NoMatch, NoPower, NoWalk, NoWord, TooGreat
from solvedtreads.orders import common, least_over, spare_of, treads_all
from solvedtreads.products import back_of, power, product
from solvedtreads.treads import is_tread, least_word, tread_of
from solvedtreads.walks import Walk
from solvedtreads.wishes import Wishes
from solvedtreads.words import back

EMPTY = (("",), "")

# None of these is a Walk.
NO_WALKS = (
    None, True, False, 0, 1, 2, -1, 10 ** 60, "", "a", "ab", [], ["a"], [Walk("a")], (), ("a",), (Walk("a"),), {},
    {"a": 1}, tread_of("a"), [["", "a"], "a"], Walk, Answers(EMPTY, EMPTY, EMPTY),
    Wishes(Answers(EMPTY, EMPTY, EMPTY)), [[(None, "a")]],
)

WORDS = words_up_to(2, "aAb") + ["abBA", "bBa", "bBaAa", "aabBAA", "dDcCbBaA", "abBcC", "cCab", "aAab"]


def walk_of(tread):
    """Return a Walk with a tread of any size, from words that are short enough."""
    word = least_word(tread)
    walk = Walk(word[:200])
    return walk * Walk(word[200:]) if len(word) > 200 else walk


class WalkTest(unittest.TestCase):
    def check_walk(self, walk, tread):
        """Look at all that a walk tells."""
        self.assertIs(type(walk), Walk)
        self.assertEqual(walk.tread(), tread)
        self.assertIs(is_tread(walk.tread()), True)
        self.assertEqual(walk.places, tread[0])
        self.assertIs(type(walk.places), tuple)
        self.assertEqual(walk.end, tread[1])
        self.assertEqual(walk.word(), least_word(tread))
        self.assertIs(type(len(walk)), int)
        self.assertEqual(len(walk), len(tread[0]))
        for place in tread[0]:
            self.assertIs(place in walk, True)
        self.assertIs(walk == walk_of(tread), True)
        self.assertIs(walk != walk_of(tread), False)

    def test_words(self):
        for word in WORDS + [mixed_word(seed, 200) for seed in range(3)] + ["a" * 200, "aA" * 100, "a" * 100 + "A" * 100]:
            self.check_walk(Walk(word), slow_tread(word))

    def test_great_treads(self):
        for tread in sample_treads():
            self.check_walk(walk_of(tread), tread)
            self.check_walk(walk_of(spare_of(tread)), spare_of(tread))
        # Its least word has 400 letters.
        spare = spare_of(tread_of("a" * 200))
        self.check_walk(Walk("a" * 200) * Walk("A" * 200), spare)
        self.assertEqual(len((Walk("a" * 200) * Walk("A" * 200)).word()), 400)

    def test_places_in_walks(self):
        walk = Walk("abBc")
        for word in words_up_to(3):
            self.assertIs(word in walk, word in ("", "a", "ab", "ac"))
        for thing in NO_WORDS + NO_WALKS + ("aA", "abB", "e", "a" * 201, tread_of("a"), ("a",), ["a"], walk):
            self.assertIs(thing in walk, thing in ("", "a", "ab", "ac") and type(thing) is str, repr(thing))
        self.assertIs("a" * 200 in Walk("a" * 200), True)
        self.assertIs("a" * 201 in Walk("a" * 200), False)

    def test_equal_ones(self):
        for one, other in itertools.product(WORDS, repeat=2):
            same = slow_tread(one) == slow_tread(other)
            self.assertIs(Walk(one) == Walk(other), same)
            self.assertIs(Walk(one) != Walk(other), not same)
        self.assertIs(Walk("aAbB") == Walk("bBaA"), True)
        self.assertIs(Walk("aA") == Walk("aAaA"), True)
        self.assertIs(Walk("aA") == Walk(""), False)
        self.assertIs(Walk("a") == Walk("aAbBa"), False)
        for thing in NO_WALKS + NO_WORDS:
            self.assertIs(Walk("a") == thing, False)
            self.assertIs(thing == Walk("a"), False)
            self.assertIs(Walk("a") != thing, True)

    def test_covers(self):
        for one, other in itertools.product(WORDS, repeat=2):
            covered = treads_all(tread_of(one), tread_of(other))
            self.assertIs(Walk(one).covers(Walk(other)), covered)
        self.assertIs(Walk("aAbB").covers(Walk("bB")), True)
        self.assertIs(Walk("bB").covers(Walk("aAbB")), False)
        self.assertIs(Walk("ab").covers(Walk("a")), False)
        walk = Walk("ab")
        self.assertIs(walk.covers(walk), True)


class NewWalksTest(unittest.TestCase):
    def test_products(self):
        for one, other in itertools.product(WORDS, repeat=2):
            a, b = Walk(one), Walk(other)
            self.assertEqual((a * b).tread(), slow_tread(one + other))
            self.assertEqual([a.tread(), b.tread()], [slow_tread(one), slow_tread(other)])

    def test_backs(self):
        for word in WORDS:
            walk = Walk(word)
            self.assertEqual((~walk).tread(), slow_tread(back(word)))
            self.assertEqual((~~walk).tread(), walk.tread())
            self.assertEqual((walk * ~walk * walk).tread(), walk.tread())
            self.assertEqual(walk.tread(), slow_tread(word))

    def test_powers(self):
        for word, e in itertools.product(WORDS, range(21)):
            walk = Walk(word)
            self.assertEqual((walk ** e).tread(), slow_tread(word * e))
            self.assertEqual(walk.tread(), slow_tread(word))
        self.assertEqual((Walk("ab") ** 0).tread(), EMPTY)
        self.assertEqual((Walk("ab") ** 1).tread(), tread_of("ab"))

    def test_unions_and_what_is_common(self):
        unlike = 0
        for one, other in itertools.product(WORDS, repeat=2):
            a, b = Walk(one), Walk(other)
            if slow_reduced(one) != slow_reduced(other):
                unlike += 1
                self.assertRaises(NoMatch, lambda: a | b)
                self.assertRaises(NoMatch, lambda: a & b)
            else:
                self.assertEqual((a | b).tread(), least_over(tread_of(one), tread_of(other)))
                self.assertEqual((a & b).tread(), common(tread_of(one), tread_of(other)))
            self.assertEqual([a.tread(), b.tread()], [slow_tread(one), slow_tread(other)])
        self.assertGreater(unlike, 50)
        self.assertEqual((Walk("abBA") | Walk("cCaA")).tread(), (("", "a", "c", "ab"), ""))
        self.assertEqual((Walk("abBA") & Walk("cCaA")).tread(), (("", "a"), ""))

    def test_they_are_new_objects(self):
        walk = Walk("aA")
        for made in (walk * Walk(""), walk ** 1, walk | walk, walk & walk, ~walk, walk | Walk("")):
            self.assertEqual(made, walk)
            self.assertIsNot(made, walk)
            made *= Walk("b")
            self.assertEqual(walk.tread(), tread_of("aA"))
            self.assertEqual(made.tread(), tread_of("aAb"))


class InPlaceTest(unittest.TestCase):
    def test_products(self):
        for one, other in itertools.product(WORDS, repeat=2):
            walk = was = Walk(one)
            right = Walk(other)
            walk *= right
            self.assertIs(walk, was)
            self.assertEqual(was.tread(), slow_tread(one + other))
            self.assertEqual(right.tread(), slow_tread(other))

    def test_powers(self):
        for word, e in itertools.product(WORDS, (0, 1, 2, 7, 20)):
            walk = was = Walk(word)
            walk **= e
            self.assertIs(walk, was)
            self.assertEqual(was.tread(), slow_tread(word * e))

    def test_unions_and_what_is_common(self):
        for one, other in itertools.product(WORDS, repeat=2):
            if slow_reduced(one) == slow_reduced(other):
                right = Walk(other)
                walk = was = Walk(one)
                walk |= right
                self.assertIs(walk, was)
                self.assertEqual(was.tread(), least_over(tread_of(one), tread_of(other)))
                walk = was = Walk(one)
                walk &= right
                self.assertIs(walk, was)
                self.assertEqual(was.tread(), common(tread_of(one), tread_of(other)))
                self.assertEqual(right.tread(), slow_tread(other))

    def test_by_itself(self):
        for word in WORDS:
            walk = was = Walk(word)
            walk *= walk
            self.assertIs(walk, was)
            self.assertEqual(walk.tread(), slow_tread(word * 2))
            walk *= walk
            self.assertEqual(walk.tread(), slow_tread(word * 4))
            walk |= walk
            walk &= walk
            self.assertIs(walk, was)
            self.assertEqual(walk.tread(), slow_tread(word * 4))

    def test_what_came_of_it_before(self):
        walk = Walk("ab")
        twice, turned, same = walk * walk, ~walk, walk
        tread, places = walk.tread(), walk.places
        walk *= Walk("c")
        self.assertEqual(twice.tread(), tread_of("abab"))
        self.assertEqual(turned.tread(), tread_of("BA"))
        self.assertEqual([tread, places], [tread_of("ab"), ("", "a", "ab")])
        self.assertEqual(same.tread(), tread_of("abc"))
        self.assertEqual([same.end, len(same), "abc" in same, same.word()], ["abc", 4, True, "abc"])
        twice **= 0
        self.assertEqual(walk.tread(), tread_of("abc"))

    def test_two_that_share(self):
        one = Walk("aA")
        other = one | Walk("")
        both = one & other
        one |= Walk("bB")
        other &= Walk("")
        self.assertEqual([one.word(), other.word(), both.word()], ["aAbB", "", "aA"])


class TooGreatTest(unittest.TestCase):
    def check_too_great(self, walk, change):
        """Change a walk in place, which has to raise TooGreat and to leave it as it was."""
        was = walk.tread()
        self.assertRaises(TooGreat, change, walk)
        self.assertEqual(walk.tread(), was)
        self.assertEqual(walk.word(), least_word(was))

    def test_products(self):
        def times(other):
            def change(walk):
                walk *= other
            return change

        for k in (1, 57, 100, 199):
            one, other = Walk("a" * k), Walk("a" * (200 - k))
            self.assertEqual(len(one * other), 201)
            self.assertEqual((one * other).end, "a" * 200)
            more = Walk("a" * (201 - k))
            self.assertRaises(TooGreat, lambda: one * more)
            self.check_too_great(one, times(more))
            one *= other
            self.assertEqual(len(one), 201)
            self.check_too_great(one, times(Walk("a")))
            self.check_too_great(one, times(Walk("bB")))
            one *= Walk("A" * 200)
            self.assertEqual(len(one), 201)
        walk = Walk("aA" * 30 + "b" * 100)
        walk *= Walk("bcC" + "d" * 97)
        self.assertEqual(len(walk), 201)
        self.check_too_great(walk, times(Walk("c")))
        self.check_too_great(walk, times(walk))

    def test_powers(self):
        def to_the(e):
            def change(walk):
                walk **= e
            return change

        walk = Walk("a" * 10)
        self.assertEqual(len(walk ** 20), 201)
        self.assertEqual((walk ** 20).tread(), power(tread_of("a" * 10), 20))
        for word in ("a" * 10 + "b", "b" + "a" * 10, "bB" + "a" * 10):
            walk = Walk(word)
            self.assertRaises(TooGreat, lambda: walk ** 20)
            self.check_too_great(walk, to_the(20))
        walk = Walk("a" * 200)
        self.assertEqual(walk ** 1, walk)
        self.assertEqual(len(walk ** 0), 1)
        self.check_too_great(walk, to_the(2))
        walk = Walk("aA" * 30)
        self.assertEqual(walk ** 20, walk)
        walk = Walk("a" * 100)
        walk **= 2
        self.assertEqual(len(walk), 201)

    def test_unions(self):
        def over(other):
            def change(walk):
                walk |= other
            return change

        one, other = Walk("a" * 100 + "A" * 100), Walk("b" * 100 + "B" * 100)
        self.assertEqual(len(one | other), 201)
        more = other * Walk("cC")
        self.assertEqual(len(more), 102)
        self.assertRaises(TooGreat, lambda: one | more)
        self.check_too_great(one, over(more))
        one |= other
        self.assertEqual(len(one), 201)
        self.assertEqual(one | other, one)
        self.check_too_great(one, over(Walk("cC")))
        self.assertEqual(len(one & more), 101)

    def test_errors_ahead(self):
        # NoMatch comes ahead of TooGreat.
        one, other = Walk("a" * 200), Walk("b" * 200)
        self.assertRaises(NoMatch, lambda: one | other)
        self.assertRaises(NoMatch, lambda: one & other)


class ErrorsTest(unittest.TestCase):
    def test_no_word(self):
        for thing in NO_WORDS + ("a" * 201, "aA" * 101):
            self.assertRaises(NoWord, Walk, thing)

    def test_no_walk(self):
        def times(a, b):
            a *= b

        def over(a, b):
            a |= b

        def shared(a, b):
            a &= b

        walk = Walk("abB")
        for thing in NO_WALKS + NO_WORDS:
            with self.subTest(thing=repr(thing)):
                self.assertRaises(NoWalk, lambda: walk * thing)
                self.assertRaises(NoWalk, lambda: walk | thing)
                self.assertRaises(NoWalk, lambda: walk & thing)
                self.assertRaises(NoWalk, walk.covers, thing)
                for change in (times, over, shared):
                    self.assertRaises(NoWalk, change, walk, thing)
        self.assertEqual(walk.tread(), tread_of("abB"))

    def test_no_power(self):
        def to_the(a, b):
            a **= b

        walk = Walk("a" * 150)
        for thing in NO_INTEGERS + (-1, 21, -2, -20, 22, 10 ** 60, -10 ** 60, walk, Walk(""), tread_of("a")):
            with self.subTest(thing=repr(thing)):
                self.assertRaises(NoPower, lambda: walk ** thing)
                self.assertRaises(NoPower, to_the, walk, thing)
        self.assertEqual(walk.tread(), tread_of("a" * 150))

    def test_no_match_changes_nothing(self):
        def over(a, b):
            a |= b

        def shared(a, b):
            a &= b

        one, other = Walk("ab"), Walk("abB")
        for change in (over, shared):
            self.assertRaises(NoMatch, change, one, other)
            self.assertRaises(NoMatch, change, other, one)
        self.assertEqual([one.tread(), other.tread()], [tread_of("ab"), tread_of("abB")])


class ArgumentsTest(unittest.TestCase):
    def test_by_their_names(self):
        walk = Walk(word="ab")
        self.assertEqual(walk.tread(), tread_of("ab"))
        self.assertIs(walk.covers(other=Walk(word="ab")), True)

    def test_the_same_again(self):
        one, other = Walk("bBaA"), Walk("cC")
        for _ in range(2):
            self.assertEqual((one * other).tread(), tread_of("aAbBcC"))
            self.assertEqual((one | other).tread(), tread_of("aAbBcC"))
            self.assertEqual((one & other).tread(), EMPTY)
            self.assertEqual([one.word(), other.word()], ["aAbB", "cC"])
            self.assertIs(one.covers(other), False)

    def test_things_stay_as_they_are(self):
        thing = [["a"], {"b": ["c"]}]
        walk = Walk("a")
        self.assertIs(thing in walk, False)
        self.assertIs(walk == thing, False)
        self.assertRaises(NoWalk, lambda: walk * thing)
        self.assertRaises(NoPower, lambda: walk ** thing)
        self.assertEqual(thing, [["a"], {"b": ["c"]}])


class SequencesTest(unittest.TestCase):
    """Promise [14]: after any calls a walk answers as a new one with the same tread."""

    def change(self, walk, other, kind):
        """Change a walk in one of some ways, and return the tread that it has to have then."""
        one = walk.tread()
        if kind == 0:
            expected = product(one, other.tread())
            walk *= other
        elif kind == 1:
            expected = least_over(one, other.tread())
            walk |= other
        elif kind == 2:
            expected = common(one, other.tread())
            walk &= other
        elif kind == 3:
            expected = power(one, len(other) % 4)
            walk **= len(other) % 4
        elif kind == 4:
            expected = one
            walk *= one
        else:
            expected = one
            walk **= len(other) + 20
        return expected

    def check_as_new(self, walk, tread):
        """Hold a walk against one that is made anew."""
        new = walk_of(tread)
        self.assertEqual(walk.tread(), tread)
        self.assertTrue(walk == new and new == walk)
        self.assertEqual([walk.word(), walk.end, walk.places, len(walk)], [new.word(), new.end, new.places, len(new)])
        self.assertEqual((walk & new).tread(), (~~new).tread())
        self.assertTrue(walk.covers(new) and new.covers(walk))

    def test_long_ones(self):
        errors = {}
        for seed in range(6):
            words = [mixed_word(seed * 7 + k, 4, "aAbBcC") for k in range(5)]
            walks = [Walk(word + back(word)) for word in words[:3]] + [Walk(word) for word in words[3:]]
            for k, kind in enumerate(mixed_word(seed, 120, "0112345")):
                walk, other = walks[k % 5], walks[(k * 3 + seed) % 5]
                was, right = walk.tread(), other.tread()
                try:
                    expected = self.change(walk, other, int(kind))
                except (NoMatch, NoPower, NoWalk, TooGreat) as error:
                    errors[type(error)] = True
                    expected = was
                if other is not walk:
                    self.assertEqual(other.tread(), right)
                self.check_as_new(walk, expected)
                if len(walk) > 150:
                    walk **= 0
                    self.check_as_new(walk, EMPTY)
        self.assertEqual(set(errors), {NoMatch, NoPower, NoWalk, TooGreat})


class AllWalksTest(unittest.TestCase):
    """Promise [14], where it speaks of walks."""

    def test_backs_and_spare_ones(self):
        for one, other in itertools.product(WORDS, repeat=2):
            a, b = Walk(one), Walk(other)
            self.assertEqual(a * ~a * a, a)
            self.assertEqual(a * ~a * (b * ~b), b * ~b * (a * ~a))
            self.assertEqual((a * b).tread(), tread_of(one + other))
            self.assertEqual(~(a * b), ~b * ~a)
            self.assertEqual(back_of(a.tread()), (~a).tread())
            spare = walk_of(spare_of(a.tread()))
            self.assertIs(a.covers(b), spare * b == a)


if __name__ == "__main__":
    unittest.main()
