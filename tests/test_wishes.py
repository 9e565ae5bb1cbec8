"""Promise [13]: wishes, stretches of them, and trials."""

import itertools
import unittest

from samples import (
    NO_REDUCED, NO_WORDS, in_order, mixed_word, path_tread, slow_solutions, slow_tread, wide_tread, words_up_to,
)
from solvedtreads.answers import Answers
from solvedtreads.errors import NoAnswers, NoPlace, NoThings, NoUndo, NoWishes, TooGreat
from solvedtreads.orders import spare_of
from solvedtreads.treads import tread_of
from solvedtreads.walks import Walk
from solvedtreads.wishes import Wishes, trial

EMPTY = (("",), "")

EQUATIONS = (
    ("b", "", "a"), ("", "", "ab"), ("a", "", "ab"), ("a", "", "abBcC"), ("aAbBcC", "", "aAbBcC"),
    ("abBA", "cC", "abBcCdDAcC"), ("aAbBcC", "dD", "aAbBcCdD"), ("abcC", "", "abcCbBBA"), ("abBcCA", "", "abBcCA"),
)

PLACES = ("a", "b", "A", "ab", "ac", "c", "", "d", "B", "Bc", "aab", "BA")

NO_PLACES = NO_WORDS + NO_REDUCED + ("a" * 201, "ab" * 101, "+a", "-a", "<", tread_of("a"), ("a",), ["a"])


def answers_of(row):
    """Return the Answers of an equation by words."""
    return Answers(*[slow_tread(word) for word in row])


def many_answers():
    """Return an Answers for four treads."""
    return answers_of(("aAbB", "", "aAbB"))


NO_ANSWERS = (
    None, True, False, 0, 1, "", "a", [], (), {}, EMPTY, (EMPTY, EMPTY, EMPTY), Walk("a"), Answers,
    Wishes(many_answers()), [many_answers()], (many_answers(),),
)

NO_WISHES = (
    None, True, False, 0, 1, "", "a", "<", [], ["+a"], (), {}, EMPTY, Walk("a"), many_answers(), Wishes,
    [Wishes(many_answers())], (Wishes(many_answers()),),
)

# None of these is a list of strings and of such lists, nested at most five deep.
NO_THINGS = (
    None, True, False, 0, 1, "", "<", "+a", "-a", (), ("+a",), {}, {"+a": 1}, [None], [True], [0], [1], [()], [("+a",)],
    [{}], ["+a", None], ["+a", ("<",)], [["+a", 0]], ["+a", ["<", ["-a", [None]]]], [[], [[], [()]]], [b"+a"],
    [[[[[[]]]]]], [[[[[["+a"]]]]]], ["+a", [[[[["<"]]]]]], [[[[["+a", []]]]]], [[[[[]]]], [[[[[]]]]]],
    ["x", None], ["+aA", 1], ["<", True],
)


class SlowWishes:
    """Wishes as the document tells them: a list of these, tried out on each solution."""

    def __init__(self, treads):
        self.treads = treads
        self.standing = []

    def left(self):
        """Return all that fits."""
        return [
            tread for tread in self.treads
            if all((place in tread[0]) is trodden for place, trodden in self.standing)
        ]

    def state(self):
        """Return how many these are."""
        return ("none", "one", "many")[min(len(self.left()), 2)]

    def open_place(self):
        """Return the first place that just some tread."""
        left = self.left()
        for place in in_order({place for tread in left for place in tread[0]}):
            if not all(place in tread[0] for tread in left):
                return place
        return None


class WishesCase(unittest.TestCase):
    def check_wishes(self, wishes, slow):
        """Compare all that wishes tell."""
        treads = slow.left()
        left = wishes.left()
        self.assertIs(type(left), Answers)
        self.assertEqual([left.at(number) for number in range(left.how_many())], treads)
        self.assertEqual(wishes.state(), slow.state())
        self.assertEqual(wishes.open_place(), slow.open_place())
        self.assertIs(type(len(wishes)), int)
        self.assertEqual(len(wishes), len(slow.standing))

    def both(self, row):
        """Return wishes about the solutions of an equation by words, beside slow ones."""
        return Wishes(answers_of(row)), SlowWishes(slow_solutions(*[slow_tread(word) for word in row]))

    def wish(self, wishes, slow, place, trodden):
        """Wish the same of both."""
        self.assertIsNone(wishes.must(place) if trodden else wishes.bar(place))
        slow.standing.append((place, trodden))

    def undo(self, wishes, slow):
        """Take the last one of both back."""
        self.assertIsNone(wishes.undo())
        slow.standing.pop()


class WishTest(WishesCase):
    def test_single_wishes(self):
        states = {}
        for row in EQUATIONS:
            for place, trodden in itertools.product(PLACES, (True, False)):
                wishes, slow = self.both(row)
                self.check_wishes(wishes, slow)
                self.wish(wishes, slow, place, trodden)
                self.check_wishes(wishes, slow)
                states[wishes.state()] = True
                self.undo(wishes, slow)
                self.check_wishes(wishes, slow)
        self.assertEqual(set(states), {"none", "one", "many"})

    def test_rows_of_wishes(self):
        for row in EQUATIONS[2:]:
            for places in itertools.permutations(PLACES[:5], 3):
                wishes, slow = self.both(row)
                for k, place in enumerate(places):
                    self.wish(wishes, slow, place, (len(places[k - 1]) + k) % 2 == 0)
                    self.check_wishes(wishes, slow)
                for _ in places:
                    self.undo(wishes, slow)
                    self.check_wishes(wishes, slow)
                self.assertRaises(NoUndo, wishes.undo)

    def test_wishes_that_bar_each_other(self):
        wishes, slow = self.both(("aAbBcC", "", "aAbBcC"))
        for place, trodden in (("a", True), ("a", False), ("b", True), ("a", True)):
            self.wish(wishes, slow, place, trodden)
            self.check_wishes(wishes, slow)
        self.assertEqual(wishes.state(), "none")
        for state in ("none", "none", "many", "many"):
            self.undo(wishes, slow)
            self.check_wishes(wishes, slow)
            self.assertEqual(wishes.state(), state)

    def test_the_same_wish_twice(self):
        wishes, slow = self.both(("aAbBcC", "", "aAbBcC"))
        for _ in range(3):
            self.wish(wishes, slow, "a", True)
            self.check_wishes(wishes, slow)
        self.undo(wishes, slow)
        self.check_wishes(wishes, slow)
        self.assertEqual([len(wishes), wishes.left().how_many(), wishes.open_place()], [2, 4, "b"])

    def test_open_places(self):
        wishes = Wishes(Answers(wide_tread(201), EMPTY, wide_tread(201)))
        for place in ("A", "B", "C"):
            self.assertEqual(wishes.open_place(), place)
            wishes.must(place)
        wishes.bar("D")
        self.assertEqual(wishes.open_place(), "a")
        self.assertEqual(Wishes(answers_of(("", "", "ab"))).open_place(), None)
        self.assertEqual(Wishes(answers_of(("b", "", "a"))).open_place(), None)

    def test_undo_where_nothing_stands(self):
        for row in EQUATIONS:
            wishes, slow = self.both(row)
            self.assertRaises(NoUndo, wishes.undo)
            self.wish(wishes, slow, "a", False)
            self.undo(wishes, slow)
            for _ in range(2):
                self.assertRaises(NoUndo, wishes.undo)
                self.check_wishes(wishes, slow)

    def test_60_wishes_and_one_more(self):
        wishes, slow = self.both(("aAbBcC", "", "aAbBcC"))
        for k in range(60):
            self.assertEqual(len(wishes), k)
            self.wish(wishes, slow, "abcaB"[k % 3] if k < 50 else "d", k % 3 < 2 and k < 50)
        self.check_wishes(wishes, slow)
        for _ in range(2):
            self.assertRaises(TooGreat, wishes.must, "a")
            self.assertRaises(TooGreat, wishes.bar, "a")
            self.assertRaises(TooGreat, wishes.bar, "")
            self.assertRaises(NoPlace, wishes.must, "aA")
            self.assertRaises(NoPlace, wishes.bar, None)
            self.check_wishes(wishes, slow)
        self.undo(wishes, slow)
        self.wish(wishes, slow, "a", False)
        self.assertRaises(TooGreat, wishes.must, "a")
        self.check_wishes(wishes, slow)
        for k in range(60):
            self.undo(wishes, slow)
        self.check_wishes(wishes, slow)
        self.assertRaises(NoUndo, wishes.undo)

    def test_places_of_200_letters(self):
        wishes = Wishes(Answers(path_tread(200), EMPTY, path_tread(200)))
        wishes.bar("A" * 200)
        self.assertEqual(wishes.left().how_many(), 200)
        wishes.must("A" * 199)
        self.assertEqual([wishes.state(), wishes.open_place()], ["one", None])
        wishes.must("A" * 200)
        self.assertEqual([wishes.state(), wishes.open_place(), len(wishes)], ["none", None, 3])
        self.assertRaises(NoPlace, wishes.must, "A" * 201)

    def test_it_leaves_the_answers(self):
        answers = many_answers()
        wishes = Wishes(answers)
        wishes.must("a")
        wishes.bar("b")
        self.assertEqual(answers, many_answers())
        self.assertEqual(answers.how_many(), 4)
        # It goes by what they stood for when it was made.
        answers &= answers.barring("a")
        self.assertEqual(wishes.left().least(), tread_of("aA"))
        self.assertEqual(wishes.state(), "one")
        wishes.undo()
        wishes.undo()
        self.assertEqual(wishes.left(), many_answers())
        self.assertEqual(answers.how_many(), 2)

    def test_left_is_new(self):
        wishes = Wishes(many_answers())
        for many in (4, 2, 1):
            one, other = wishes.left(), wishes.left()
            self.assertEqual(one, other)
            self.assertIsNot(one, other)
            one &= answers_of(("b", "", "a"))
            self.assertEqual([one.how_many(), other.how_many(), wishes.left().how_many()], [0, many, many])
            wishes.must("ab"[many % 4 // 2])


class StretchTest(WishesCase):
    def test_the_object_itself(self):
        wishes = Wishes(many_answers())
        with wishes as held:
            self.assertIs(held, wishes)
            with held as again:
                self.assertIs(again, wishes)

    def test_wishes_end_with_their_stretch(self):
        for row in EQUATIONS:
            wishes, slow = self.both(row)
            self.wish(wishes, slow, "b", True)
            was = list(slow.standing)
            with wishes:
                self.check_wishes(wishes, slow)
                self.wish(wishes, slow, "a", False)
                self.wish(wishes, slow, "c", True)
                self.check_wishes(wishes, slow)
            slow.standing = list(was)
            self.check_wishes(wishes, slow)
            with wishes:
                self.check_wishes(wishes, slow)
            self.check_wishes(wishes, slow)

    def test_undo_behind_the_beginning(self):
        wishes, slow = self.both(("aAbBcC", "", "aAbBcC"))
        for place in "abc":
            self.wish(wishes, slow, place, True)
        was = list(slow.standing)
        with wishes:
            self.undo(wishes, slow)
            self.undo(wishes, slow)
            self.check_wishes(wishes, slow)
            self.wish(wishes, slow, "c", False)
            self.wish(wishes, slow, "b", False)
            self.wish(wishes, slow, "a", False)
            self.check_wishes(wishes, slow)
        slow.standing = list(was)
        self.check_wishes(wishes, slow)
        with wishes:
            for _ in range(3):
                wishes.undo()
            self.assertRaises(NoUndo, wishes.undo)
            self.assertEqual(len(wishes), 0)
        self.check_wishes(wishes, slow)

    def test_stretches_within_stretches(self):
        wishes, slow = self.both(("aAbBcC", "dD", "aAbBcCdD"))
        self.wish(wishes, slow, "a", True)
        stood = []
        with wishes:
            stood.append(list(slow.standing))
            self.wish(wishes, slow, "b", True)
            with wishes:
                stood.append(list(slow.standing))
                self.undo(wishes, slow)
                self.undo(wishes, slow)
                with wishes:
                    stood.append(list(slow.standing))
                    self.wish(wishes, slow, "c", False)
                    self.check_wishes(wishes, slow)
                slow.standing = stood.pop()
                self.check_wishes(wishes, slow)
                self.wish(wishes, slow, "d", False)
            slow.standing = stood.pop()
            self.check_wishes(wishes, slow)
            with wishes:
                self.assertEqual(len(wishes), 2)
                wishes.undo()
            self.check_wishes(wishes, slow)
        slow.standing = stood.pop()
        self.check_wishes(wishes, slow)
        self.assertEqual(len(wishes), 1)

    def test_errors_that_leave_stretches(self):
        class OtherError(Exception):
            pass

        for error in (OtherError, NoPlace, NoUndo, ValueError, KeyError, KeyboardInterrupt):
            wishes, slow = self.both(("aAbBcC", "", "aAbBcC"))
            self.wish(wishes, slow, "a", True)
            raised = error("text")
            with self.assertRaises(error) as caught:
                with wishes:
                    wishes.must("b")
                    with wishes:
                        wishes.undo()
                        wishes.undo()
                        wishes.bar("a")
                        raise raised
            self.assertIs(caught.exception, raised)
            self.check_wishes(wishes, slow)
            self.wish(wishes, slow, "c", False)
            with wishes:
                try:
                    with wishes:
                        wishes.bar("b")
                        wishes.must("aA")
                except NoPlace:
                    self.check_wishes(wishes, slow)
                self.check_wishes(wishes, slow)
            self.check_wishes(wishes, slow)

    def test_a_stretch_that_is_left_on_the_way(self):
        wishes = Wishes(many_answers())

        def told():
            for _ in range(3):
                with wishes:
                    wishes.must("a")
                    if len(wishes) == 1:
                        continue
            with wishes:
                wishes.bar("b")
                return wishes.state()

        self.assertEqual(told(), "many")
        self.assertEqual(len(wishes), 0)

    def test_two_at_a_time(self):
        one, other = Wishes(many_answers()), Wishes(many_answers())
        with one, other as held:
            one.must("a")
            held.bar("a")
            other.bar("b")
            self.assertEqual([one.left().how_many(), other.left().how_many()], [2, 1])
        self.assertEqual([len(one), len(other), one.left().how_many()], [0, 0, 4])

    def test_60_wishes_within_stretches(self):
        wishes = Wishes(many_answers())
        for _ in range(59):
            wishes.must("a")
        with wishes:
            wishes.must("b")
            self.assertRaises(TooGreat, wishes.must, "b")
        wishes.bar("a")
        with wishes:
            self.assertRaises(TooGreat, wishes.bar, "b")
            wishes.undo()
            wishes.bar("b")
        self.assertEqual([len(wishes), wishes.state()], [60, "none"])


class TrialTest(WishesCase):
    def slow_trial(self, slow, things):
        """Go by the words of the document, for things of which none raises an error."""
        was = list(slow.standing)
        states = []
        for thing in things:
            if isinstance(thing, list):
                states.append(self.slow_trial(slow, thing))
            else:
                if thing == "<":
                    slow.standing.pop()
                else:
                    slow.standing.append((thing[1:], thing[0] == "+"))
                states.append(slow.state())
        slow.standing = was
        return states

    def test_trials(self):
        wishes = Wishes(Answers(tread_of("a"), EMPTY, tread_of("ab")))
        wishes.must("A")
        self.assertEqual(trial(wishes, ["<", ["-A"], "+c", "-b"]), ["many", ["one"], "none", "none"])
        self.assertEqual([len(wishes), wishes.state()], [1, "one"])
        self.assertEqual(trial(wishes, ["+b", "<", "<"]), ["one", "one", "many"])
        self.assertEqual(trial(wishes, []), [])
        self.assertEqual(trial(wishes, [[], [[]], [[[[]]], []]]), [[], [[]], [[[[]]], []]])

    def test_against_slow_ones(self):
        for row in EQUATIONS:
            for things in (
                ["+a"], ["-a"], ["+a", "-b", "<", "<"], [["+a"], ["-a"], [["+b"], "-b"]], ["+a", ["<", "-a"], "<"],
                ["+a", ["-b", ["<", "<", "+c"], "<"], "+ab", [[[["-ac"]]]]], ["-", "<", "+"], [[[[["+", "-"]]]]],
                ["+b", [["<"], ["<", "-b"], "-a", [], ["+A"]], "-A", "<", "<"], ["+" + "ab" * 100, "<", "-" + "a" * 200],
            ):
                wishes, slow = self.both(row)
                for _ in range(2):
                    self.wish(wishes, slow, "B", False)
                    self.assertEqual(trial(wishes, things), self.slow_trial(slow, things))
                    self.check_wishes(wishes, slow)

    def test_the_empty_place(self):
        wishes = Wishes(many_answers())
        self.assertEqual(trial(wishes, ["+", "-"]), ["many", "none"])

    def test_five_deep(self):
        wishes = Wishes(many_answers())
        self.assertEqual(trial(wishes, ["+a", [[[["+b"]]]]]), ["many", [[[["one"]]]]])
        self.assertEqual(trial(wishes, [[[[["+a"], "-a"]]], [[[[]]]]]), [[[[["many"], "many"]]], [[[[]]]]])
        for things in ([[[[[["+a"]]]]]], ["+a", [[[[["+b"]]]]]], [[[[[[]]]]]], [[[[["+a", []]]]]]):
            self.assertRaises(NoThings, trial, wishes, things)
            self.assertRaises(NoThings, trial, wishes, [things])
        self.assertEqual(len(wishes), 0)

    def test_no_things(self):
        wishes = Wishes(many_answers())
        wishes.must("a")
        nested = ["+a"]
        for _ in range(17):
            nested = [nested]
        for thing in NO_THINGS + ([nested],):
            with self.subTest(thing=thing):
                was = repr(thing)
                self.assertRaises(NoThings, trial, wishes, thing)
                self.assertEqual(repr(thing), was)
        self.assertEqual([len(wishes), wishes.left().how_many()], [1, 2])

    def test_the_form_is_looked_at_first(self):
        wishes = Wishes(many_answers())
        for things in (["<", None], ["x", 1], ["+aA", ["-a", ()]], [["<"], [[[[[]]]]]], ["+a"] * 61 + [0]):
            self.assertRaises(NoThings, trial, wishes, things)
        self.assertRaises(NoUndo, trial, wishes, ["<", "x"])
        self.assertRaises(NoPlace, trial, wishes, ["x", "<"])

    def test_strings_that_are_none(self):
        wishes = Wishes(many_answers())
        wishes.must("a")
        for string in (
            "", "a", "b", "x", "<<", "< ", " <", "<a", "++a", "+-a", "+ a", "+a ", "+aA", "-aA", "+e", "-1", "*a", "=", "a+",
            "+" + "a" * 201, "-" + "ab" * 101, "must", "undo", "+\u00e4", "\u00df", ">", "+<", "-+",
        ):
            with self.subTest(string=string):
                for things in ([string], ["<", "-a", string], [["+b", [string]]], ["+b", [], string, "<"]):
                    self.assertRaises(NoPlace, trial, wishes, things)
                    self.assertEqual([len(wishes), wishes.state(), wishes.left().how_many()], [1, "many", 2])

    def test_errors_amid(self):
        wishes, slow = self.both(("aAbBcC", "", "aAbBcC"))
        self.wish(wishes, slow, "a", True)
        for error, things in (
            (NoUndo, ["<", "<"]), (NoUndo, ["+a", ["<", "<", ["-b", "<", "<"]]]), (NoUndo, [["<"], ["<", "<"], "x"]),
            (TooGreat, ["+a"] * 60), (TooGreat, ["+a"] * 59 + ["<", "-b", ["+a"], "<"]),
            (TooGreat, ["+a"] * 59 + ["-"]), (NoPlace, ["+a"] * 59 + ["+aA"]), (NoPlace, ["<", "+b", ["-c", "c"]]),
        ):
            self.assertRaises(error, trial, wishes, things)
            self.check_wishes(wishes, slow)
        self.assertEqual(trial(wishes, ["+b"] * 59), ["many"] * 59)
        self.assertEqual(trial(wishes, ["+b"] * 59 + ["<", "-b"])[-2:], ["many", "none"])
        self.check_wishes(wishes, slow)

    def test_within_a_stretch(self):
        wishes, slow = self.both(("aAbBcC", "", "aAbBcC"))
        self.wish(wishes, slow, "a", True)
        with wishes:
            wishes.must("b")
            self.assertEqual(trial(wishes, ["<", "<", ["-c", "-b", "-a"]]), ["many", "many", ["many", "many", "one"]])
            self.assertRaises(NoUndo, trial, wishes, ["<"] * 3)
            self.assertEqual(len(wishes), 2)
        self.check_wishes(wishes, slow)

    def test_answers_are_new(self):
        wishes = Wishes(many_answers())
        empty = []
        told = trial(wishes, [empty, empty, ["+a"], ["+a"]])
        self.assertEqual(told, [[], [], ["many"], ["many"]])
        self.assertEqual(len({id(part) for part in told + [told, empty]}), 6)
        told[2].append("x")
        self.assertEqual(trial(wishes, [empty, empty, ["+a"], ["+a"]]), [[], [], ["many"], ["many"]])

    def test_long_ones(self):
        wishes = Wishes(Answers(wide_tread(201), EMPTY, wide_tread(201)))
        self.assertEqual(trial(wishes, ["+a", "-b", "<", "<"] * 500), ["many"] * 2000)
        self.assertEqual(trial(wishes, [["+A"] for _ in range(2000)]), [["many"]] * 2000)


class ErrorsTest(WishesCase):
    def test_no_answers(self):
        for thing in NO_ANSWERS:
            self.assertRaises(NoAnswers, Wishes, thing)

    def test_no_place(self):
        for row in EQUATIONS[::2]:
            wishes, slow = self.both(row)
            self.wish(wishes, slow, "a", True)
            for thing in NO_PLACES:
                self.assertRaises(NoPlace, wishes.must, thing)
                self.assertRaises(NoPlace, wishes.bar, thing)
            self.check_wishes(wishes, slow)

    def test_no_wishes(self):
        for thing in NO_WISHES:
            for things in (["+a"], [], None, "x", [None], [[[[[[]]]]]], ["x"]):
                self.assertRaises(NoWishes, trial, thing, things)


class ArgumentsTest(WishesCase):
    def test_by_their_names(self):
        wishes = Wishes(answers=many_answers())
        self.assertIsNone(wishes.must(place="a"))
        self.assertIsNone(wishes.bar(place="b"))
        self.assertEqual(wishes.state(), "one")
        self.assertEqual(trial(things=["<"], wishes=wishes), ["many"])
        self.assertEqual(trial(wishes=wishes, things=[["<"]]), [["many"]])

    def test_they_stay_as_they_are(self):
        wishes = Wishes(many_answers())
        things = ["+a", ["<", [], "-b"], "<"]
        for _ in range(2):
            self.assertEqual(trial(wishes, things), ["many", ["many", [], "many"], "many"])
            self.assertEqual(things, ["+a", ["<", [], "-b"], "<"])
            self.assertEqual(len(wishes), 0)
        things = ["+a", ["x"]]
        self.assertRaises(NoPlace, trial, wishes, things)
        self.assertEqual(things, ["+a", ["x"]])


class SequencesTest(WishesCase):
    """Promise [14]: after any calls wishes answer as new ones that have the same wishes."""

    def check_as_new(self, wishes, slow, row):
        """Hold wishes against those that are made anew and have the same wishes."""
        new = Wishes(answers_of(row))
        for place, trodden in slow.standing:
            if trodden:
                new.must(place)
            else:
                new.bar(place)
        self.assertEqual(wishes.left(), new.left())
        self.assertEqual(
            [wishes.state(), wishes.open_place(), len(wishes)], [new.state(), new.open_place(), len(new)],
        )
        things = ["+a", ["-b", "<"], "-c"]
        self.assertEqual(trial(wishes, things), trial(new, things))

    def go_on(self, wishes, slow, row, kinds, depth):
        """Do what letters say in a stretch, with stretches within it."""
        was = list(slow.standing)
        try:
            with wishes:
                while kinds:
                    kind = kinds.pop()
                    if kind == ")" and depth > 0:
                        break
                    if kind == "!" and depth > 0:
                        raise KeyError(kind)
                    if kind == "(" and depth < 6:
                        self.go_on(wishes, slow, row, kinds, depth + 1)
                    elif kind == "?":
                        with self.assertRaises(KeyError):
                            self.go_on(wishes, slow, row, kinds, depth + 1)
                            raise KeyError("the letters are at their end")
                    else:
                        self.do_one(wishes, slow, PLACES[(len(kinds) * 5 + depth) % len(PLACES)], kind)
                    self.check_wishes(wishes, slow)
                    self.check_as_new(wishes, slow, row)
        finally:
            slow.standing = was

    def do_one(self, wishes, slow, place, kind):
        """Do what one letter says."""
        if kind in "+-":
            self.wish(wishes, slow, place, kind == "+")
        elif kind == "<" and slow.standing:
            self.undo(wishes, slow)
        elif kind == "<":
            self.assertRaises(NoUndo, wishes.undo)
        else:
            self.assertRaises(NoPlace, wishes.must, place + "aA")
            self.assertRaises(NoThings, trial, wishes, [place, None])
            self.assertRaises(NoPlace, trial, wishes, ["+a", ["-b", "x" + place]])
            self.assertRaises(NoUndo, trial, wishes, ["<"] * 61)
            self.assertRaises(TooGreat, trial, wishes, ["+a"] * 61)

    def test_long_ones(self):
        for seed, row in enumerate(EQUATIONS):
            wishes, slow = self.both(row)
            for part in range(4):
                kinds = list(mixed_word(seed * 4 + part, 60, "+-+-<<+-<x()(?)?!"))
                while kinds:
                    try:
                        self.go_on(wishes, slow, row, kinds, 0)
                    except KeyError:
                        self.check_as_new(wishes, slow, row)
                    self.check_wishes(wishes, slow)
                self.wish(wishes, slow, PLACES[(seed + part) % len(PLACES)], part % 2 == 0)
                self.check_as_new(wishes, slow, row)


class AllWishesTest(WishesCase):
    """Promise [14], where it speaks of wishes."""

    def test_wishes_are_what_answers_take_and_bar(self):
        for row in EQUATIONS:
            answers = answers_of(row)
            for places in itertools.permutations(words_up_to(1, "abA") + ["ab"], 3):
                wishes = Wishes(answers)
                wishes.must(places[0])
                wishes.bar(places[1])
                wishes.bar(places[2])
                self.assertEqual(wishes.left(), answers.taking(places[0]).barring(places[1]).barring(places[2]))
                self.assertEqual(wishes.left() & answers, wishes.left())

    def test_great_ones(self):
        whole = spare_of(tread_of(mixed_word(3, 120)))
        wishes = Wishes(Answers(whole, EMPTY, whole))
        count = wishes.left().how_many()
        while wishes.state() == "many" and len(wishes) < 60:
            place = wishes.open_place()
            with wishes:
                wishes.must(place)
                taken = wishes.left().how_many()
            with wishes:
                wishes.bar(place)
                barred = wishes.left().how_many()
            self.assertEqual(taken + barred, count)
            self.assertGreater(min(taken, barred), 0)
            if len(wishes) % 2:
                wishes.must(place)
            else:
                wishes.bar(place)
            count = wishes.left().how_many()
        self.assertIn(wishes.state(), ("one", "many"))


if __name__ == "__main__":
    unittest.main()
