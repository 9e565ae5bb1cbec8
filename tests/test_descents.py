"""Promise [10]: descents, and what shows that a list of words is one."""

import functools
import itertools
import unittest

from samples import NO_WORDS, PAIRS, mixed_word, slow_reduced, slow_tread, words_up_to
from solvedtreads.descents import descent, shows_descent
from solvedtreads.errors import NoWord, TooGreat
from solvedtreads.treads import alike, least_word, tread_of
from solvedtreads.words import back

# None of these is a list of words.
NO_LISTS = (
    None, True, False, 0, 1, "", "a", "aAa", (), ("aAa", "a"), ("a",), {}, {"aAa": "a"}, {0: "aAa", 1: "a"}, [],
    [None], [True], [0], [[]], [["aAa", "a"]], [("aAa", "a")], [["aAa"], ["a"]], ["aAa", None], ["aAa", "a", None],
    [None, "aAa", "a"], ["aAa", True, "a"], ["aAa", ["a"]], ["aAa", ("a",), "a"], ["aAa", 1, "a"], ["aAa", {}, "a"],
    [["aAa"], "a"], ["aAa", b"a"], [b"aAa", "a"], [[[[[["aAa", "a"]]]]]], ["aAa", [["a"]]], ["aAa", "a", []],
    ["aAa", "a", ""], ["", "aAa", "a"], ["aAa", "\u00e4", "a"], ["aAa", "a "], ["aAa", "a" * 100000, "a"],
)

# Words in which much has to be exchanged, or much is trodden again.
FAR_WORDS = (
    "aA" * 30, "Aa" * 30, "a" * 20 + "A" * 20 + "a" * 20, "a" * 60, "a" * 30 + "A" * 30, "dDcCbBaADdCcBbAa" * 3,
    "abBA" * 15, "aAbB" * 15, "bBaA" * 15, "abcCBA" * 10, "abcCBcCbBA" * 6, "aaAAaA" * 10, "dcbaABCD" * 7,
    "abABab" + "BAbaBA" * 9, "ddDcCDdbBaADCcBbAadDbcCB", "aBbAcCdD" * 7 + "abcd", "aaaAAAbbbBBBcccCCC" * 3,
)


@functools.lru_cache(maxsize=None)
def is_empty(stretch):
    """Return whether a stretch reduces to the empty word."""
    return slow_reduced(stretch) == ""


@functools.lru_cache(maxsize=None)
def slow_steps(word):
    """Go by the words of the document: all words to which one goes on in one step."""
    found = set()
    for k in range(len(word) - 2):
        if word[k:k + 2] in PAIRS and word[k + 2] == word[k]:
            found.add(word[:k] + word[k + 2:])
    many = len(word) + 1
    ends = [[j for j in range(i + 2, many, 2) if is_empty(word[i:j])] for i in range(many)]
    for i in range(many):
        for j in ends[i]:
            for k in ends[j]:
                found.add(word[:i] + word[j:k] + word[i:j] + word[k:])
    return frozenset(found - {word})


def is_slow_descent(word, words):
    """Go by the words of the document: whether a list of words is a descent."""
    if not words or words[0] != word or words[-1] != least_word(slow_tread(word)):
        return False
    return all(other in slow_steps(one) for one, other in zip(words, words[1:]))


class DescentTest(unittest.TestCase):
    def check_descent(self, word):
        """Look at what descent tells of a word, and return it."""
        words = descent(word)
        self.assertIs(type(words), list)
        self.assertEqual({type(other) for other in words}, {str})
        self.assertLessEqual(len(words), 4000)
        self.assertTrue(is_slow_descent(word, words), word)
        self.assertIs(shows_descent(word, words), True)
        return words

    def test_words(self):
        self.assertEqual(descent("a"), ["a"])
        self.assertEqual(descent("aAa"), ["aAa", "a"])
        self.assertEqual(descent("bBaA"), ["bBaA", "aAbB"])
        self.assertEqual(descent("aAaA"), ["aAaA", "aA"])
        self.check_descent("abBAbBaA")

    def test_the_empty_word(self):
        self.assertEqual(descent(""), [""])
        self.assertIs(shows_descent("", [""]), True)
        for thing in ([], ["", ""], ["a"], "", None, ("",), ["", "aA", ""]):
            self.assertIs(shows_descent("", thing), False)

    def test_all_short_words(self):
        for word in words_up_to(3) + words_up_to(6, "aAb") + words_up_to(5, "aAbB"):
            self.check_descent(word)

    def test_least_words(self):
        for word in words_up_to(3) + ["abBcCA", "aAbBcCdD", "AaBbCcDdaAbBcCdD", "a" * 60, "aAb" + "c" * 57]:
            least = least_word(tread_of(word))
            self.assertEqual(descent(least), [least])
            self.assertIs(shows_descent(least, [least]), True)

    def test_words_of_all_lengths(self):
        for length in range(4, 61, 4):
            for letters in ("aA", "aAb", "aAbB", "ABCDabcd"):
                self.check_descent(mixed_word(length, length, letters))

    def test_far_words(self):
        for word in FAR_WORDS:
            self.assertLessEqual(len(word), 60)
            self.check_descent(word)

    def test_branches_in_any_order(self):
        # All branches of some places, the last ones first.
        word = "".join(one + one.swapcase() for one in "dcbaDCBA")
        self.check_descent(word)
        self.check_descent("a" + "".join(one + one.swapcase() for one in "dcbaDCB") + "b" + word.replace("bB", ""))
        for row in itertools.permutations(["aA", "bB", "cC", "Dd", "CccC"]):
            self.check_descent("".join(row))
            self.check_descent("b" + "".join(row).replace("bB", "") + "a")

    def test_words_are_alike_exactly_if_descents_end_alike(self):
        words = words_up_to(4, "aAb") + ["aAbB", "bBaA", "abBA", "abBAbB", "bBabBA"]
        for one, other in itertools.product(words[::3], words[::2]):
            self.assertEqual(descent(one)[-1] == descent(other)[-1], alike(one, other))
        self.assertEqual(descent("aAbB")[-1], descent("bBaA")[-1])
        self.assertNotEqual(descent("aA")[-1], descent("")[-1])


class ShowsTest(unittest.TestCase):
    def test_lists(self):
        self.assertIs(shows_descent("bBaA", ["bBaA", "aAbB"]), True)
        self.assertIs(shows_descent("bBaA", ["bBaA"]), False)
        self.assertIs(shows_descent("aAa", ["aAa", "a"]), True)
        self.assertIs(shows_descent("aAa", ["a"]), False)
        self.assertIs(shows_descent("aAa", ["aAa", "a", "a"]), False)
        self.assertIs(shows_descent("aAaAa", ["aAaAa", "a"]), False)
        self.assertIs(shows_descent("aAaAa", ["aAaAa", "aAa", "a"]), True)
        self.assertIs(shows_descent("aA", ["aA", "aAaA", "aA"]), False)
        self.assertIs(shows_descent("aA", ["aA", ""]), False)

    def test_all_steps_of_short_words(self):
        words = words_up_to(6, "aAb") + ["bBaA", "abBcCA", "bBaAcC", "aAbBaA", "abBBbA", "bBaAaAa", "aAbBcC", "cCbBaAd"]
        for word in words:
            steps = slow_steps(word)
            least = least_word(slow_tread(word))
            others = {"".join(row) for row in itertools.permutations(word)} if len(word) < 6 else set()
            others = others | steps | {word, word[1:], word[:-1], word[2:], word[:-2], word + "aA", least, ""}
            for other in others:
                self.assertIs(shows_descent(word, [word] + descent(other)), other in steps, (word, other))

    def test_all_exchanges_and_no_others(self):
        # Both ends of a stretch lead to one place here, but many do not.
        for word in ("aAbBcCaA", "baAcCdDB", "aAaAbB", "aabBAAcC", "abBAabBA", "abAaBcCA", "aaAAaAaA"):
            steps = slow_steps(word)
            spans = list(itertools.combinations(range(len(word) + 1), 3))
            others = {word[:i] + word[j:k] + word[i:j] + word[k:] for i, j, k in spans}
            self.assertTrue(others - steps)
            for other in others:
                self.assertIs(shows_descent(word, [word] + descent(other)), other in steps, (word, other))

    def test_an_exchange_that_changes_nothing(self):
        self.assertIs(shows_descent("aAaA", ["aAaA", "aAaA", "aA"]), False)
        self.assertIs(shows_descent("aAaAaA", ["aAaAaA", "aAaAaA", "aAaA", "aA"]), False)
        self.assertIs(shows_descent("aAaAaA", ["aAaAaA", "aAaA", "aA"]), True)
        self.assertIs(shows_descent("aAbB", ["aAbB", "aAbB"]), False)

    def test_descents_that_turn_back(self):
        self.assertIs(shows_descent("aAbB", ["aAbB", "bBaA", "aAbB"]), True)
        self.assertIs(shows_descent("aAbB", ["aAbB", "bBaA"]), False)
        self.assertIs(shows_descent("aAbBaA", ["aAbBaA", "bBaAaA", "bBaA", "aAbB", "bBaA", "aAbB"]), True)

    def test_4000_words_and_more(self):
        for many in (3998, 4000, 4002, 5000):
            self.assertIs(shows_descent("bBaA", ["bBaA", "aAbB"] * (many // 2)), many <= 4000)
        for many in (3999, 4001, 4003):
            words = ["aAbB"] + ["bBaA", "aAbB"] * (many // 2)
            self.assertEqual(len(words), many)
            self.assertIs(shows_descent("aAbB", words), many <= 4000)
        self.assertIs(shows_descent("aAbB", ["aAbB"] * 100000), False)

    def test_long_words_with_many_exchanges(self):
        word = "aAbBcCdD" * 7 + "aAbB"
        other = "bBcCdD" + "aAbBcCdD" * 6 + "aA" + "aAbB"
        self.assertIn(other, slow_steps(word))
        self.assertIs(shows_descent(word, [word, other] * 300 + descent(word)), True)
        self.assertIs(shows_descent(word, [word, other] * 300 + [word[::-1]] + descent(word)), False)
        self.assertIs(shows_descent(word, [word, other] * 300 + descent(other)[1:]), True)

    def test_descents_that_are_changed(self):
        for word in FAR_WORDS + tuple(mixed_word(seed, 24, "aAbB") for seed in range(4)):
            words = descent(word)
            for k in range(len(words)):
                twice = words[:k] + [words[k]] + words[k:]
                self.assertIs(shows_descent(word, twice), False)
                left_out = words[:k] + words[k + 1:]
                self.assertEqual(shows_descent(word, left_out), is_slow_descent(word, left_out))
                if k + 1 < len(words):
                    exchanged = words[:k] + [words[k + 1], words[k]] + words[k + 2:]
                    self.assertEqual(shows_descent(word, exchanged), is_slow_descent(word, exchanged))
            self.assertIs(shows_descent(word, words[1:]), False)
            self.assertIs(shows_descent(word, words[:-1]), False)
            if len(words) > 1:
                self.assertIs(shows_descent(word, words[::-1]), False)

    def test_descents_with_a_changed_word(self):
        for word in ("bBaAaA", "aAbBaAcCbB", "bBaAbBa", "abABabAB"):
            words = descent(word)
            for k, changed in enumerate(words):
                for other in (
                    changed[::-1], changed + "aA", changed[2:], "", changed.swapcase(), back(changed),
                    changed.replace("a", "c"), changed.replace("b", "\u00df"), changed[1:] + changed[:1],
                ):
                    others = words[:k] + [other] + words[k + 1:]
                    self.assertEqual(shows_descent(word, others), is_slow_descent(word, others))
                for thing in (None, True, 1, [changed], (changed,), [], {changed: 1}, b"aA"):
                    self.assertIs(shows_descent(word, words[:k] + [thing] + words[k + 1:]), False)

    def test_descents_of_others(self):
        for one, other in itertools.permutations(["aAbB", "bBaA", "aAa", "a", "", "aAbBaA"], 2):
            self.assertIs(shows_descent(one, descent(other)), False)

    def test_things_that_are_no_descents(self):
        for thing in NO_LISTS:
            with self.subTest(thing=repr(thing)[:60]):
                self.assertIs(shows_descent("aAa", thing), False)
        nested = ["aAa", "a"]
        for _ in range(18):
            nested = [nested]
            self.assertIs(shows_descent("aAa", nested), False)


class ErrorsTest(unittest.TestCase):
    def test_no_word(self):
        for thing in NO_WORDS + ("a" * 201, "aA" * 101, "e" * 61, "a" * 60 + "e"):
            with self.subTest(thing=thing):
                self.assertRaises(NoWord, descent, thing)
                for shown in (["a"], None, [thing], descent("aAa")):
                    self.assertRaises(NoWord, shows_descent, thing, shown)

    def test_words_of_60_and_61_letters(self):
        for word in ("a" * 60, "aA" * 30, "abB" * 20, "dDcC" * 15, mixed_word(5, 60)):
            self.assertIs(shows_descent(word, descent(word)), True)
            self.assertIs(shows_descent(word, None), False)
            for longer in (word + "a", word + "aA", (word * 4)[:199], (word * 4)[:200]):
                self.assertRaises(TooGreat, descent, longer)
                for shown in ([longer], [longer, least_word(tread_of(longer))], None, [], True, longer):
                    self.assertRaises(TooGreat, shows_descent, longer, shown)
            self.assertRaises(NoWord, descent, (word * 4)[:200] + "a")
            self.assertRaises(NoWord, shows_descent, (word * 4)[:200] + "a", [])


class ArgumentsTest(unittest.TestCase):
    def test_by_their_names(self):
        self.assertEqual(descent(word="bBaA"), ["bBaA", "aAbB"])
        self.assertIs(shows_descent(thing=["bBaA", "aAbB"], word="bBaA"), True)
        self.assertIs(shows_descent(word="bBaA", thing=["aAbB", "bBaA"]), False)

    def test_they_stay_as_they_are(self):
        thing = ["bBaAaA", "bBaA", "aAbB"]
        for _ in range(2):
            self.assertIs(shows_descent("bBaAaA", thing), True)
            self.assertIs(shows_descent("bBaA", thing), False)
        self.assertEqual(thing, ["bBaAaA", "bBaA", "aAbB"])
        thing = [["a"], {"a": ["b"]}, ("a", [])]
        self.assertIs(shows_descent("a", thing), False)
        self.assertEqual(thing, [["a"], {"a": ["b"]}, ("a", [])])

    def test_answers_are_new(self):
        one, other = descent("bBaAaA"), descent("bBaAaA")
        self.assertEqual(one, other)
        one.append("x")
        one[0] = None
        self.assertEqual(descent("bBaAaA"), other)


if __name__ == "__main__":
    unittest.main()
