"""Promise [12]: what stands for solutions, what comes of it, and how it changes in place."""

import itertools
import unittest

from samples import (
    NO_INTEGERS, NO_REDUCED, NO_TREADS, NO_WORDS, in_numbers, mixed_word, path_tread, sample_treads, slow_back,
    slow_solutions, slow_tread, some_word, wide_tread, words_up_to,
)
from solvedtreads.answers import Answers
from solvedtreads.equations import number_of, solution_at, solutions
from solvedtreads.errors import NoAnswers, NoNumber, NoPlace, NoTread
from solvedtreads.orders import spare_of, treads_all
from solvedtreads.products import back_of, product
from solvedtreads.treads import is_tread, tread_of
from solvedtreads.walks import Walk
from solvedtreads.wishes import Wishes

EMPTY = (("",), "")

# Equations by words, of no, of one and of many solutions.
EQUATIONS = (
    ("b", "", "a"), ("a", "aA", "a"), ("", "b", "aA"), ("", "", ""), ("", "", "abBA"), ("", "", "ab"), ("", "", "bAa"),
    ("a", "", "ab"), ("", "b", "ab"), ("a", "", "abBcC"), ("aAbB", "bB", "aAbBcCdD"), ("abBA", "cC", "abBcCdDAcC"),
    ("", "aAbBcC", "aAbBcC"), ("aAbBcC", "", "aAbBcC"), ("abBA", "", "abBcCA"), ("b", "", "baAcC"), ("", "Ab", "aAb"),
    ("aA", "Aa", "aAAa"), ("abcC", "", "abcCbBBA"), ("aAbBcC", "dD", "aAbBcCdD"), ("Aa", "bcC", "AabcC"),
)

# None of these is an Answers.
NO_ANSWERS = (
    None, True, False, 0, 1, -1, 10 ** 60, "", "a", [], (), {}, EMPTY, tread_of("a"), (EMPTY, EMPTY),
    (EMPTY, EMPTY, EMPTY), [EMPTY], {"a": EMPTY}, Walk("a"), Walk(""), Answers, Wishes(Answers(EMPTY, EMPTY, EMPTY)),
    [Answers(EMPTY, EMPTY, EMPTY)], (Answers(EMPTY, EMPTY, EMPTY),),
)

NO_PLACES = NO_WORDS + NO_REDUCED + ("a" * 201, "ab" * 101, tread_of("a"), ("a",), ["a"])


def answers_of(row):
    """Return the Answers of an equation by words."""
    return Answers(*[slow_tread(word) for word in row])


def slow_answers(row):
    """Return all solutions of an equation by words."""
    return slow_solutions(*[slow_tread(word) for word in row])


def pairs():
    """Return an Answers beside all that it stands for, for many equations."""
    return [(answers_of(row), slow_answers(row)) for row in EQUATIONS]


def turned(treads):
    """Return the backs of treads, in the order of their numbers."""
    return in_numbers([slow_tread(slow_back(some_word(tread))) for tread in treads])


class AnswersCase(unittest.TestCase):
    def check_answers(self, answers, treads):
        """Compare all that an Answers tells with the ordered list of what it stands for."""
        self.assertIs(type(answers), Answers)
        self.assertIs(type(answers.how_many()), int)
        self.assertEqual(answers.how_many(), len(treads))
        for number, tread in enumerate(treads):
            self.assertEqual(answers.at(number), tread)
            self.assertEqual(answers.number_of(tread), number)
            self.assertIs(tread in answers, True)
            self.assertIs(treads_all(tread, answers.least()), True)
            self.assertIs(treads_all(answers.most(), tread), True)
        if treads:
            self.assertIn(answers.least(), treads)
            self.assertIn(answers.most(), treads)
        else:
            self.assertEqual([answers.least(), answers.most()], [None, None])
        for number in (-1, -2, len(treads), len(treads) + 1, 10 ** 60, -10 ** 60):
            self.assertRaises(NoNumber, answers.at, number)


class SolutionsTest(AnswersCase):
    def test_equations(self):
        counts = {}
        for answers, treads in pairs():
            self.check_answers(answers, treads)
            counts[min(len(treads), 2)] = True
        self.assertEqual(len(counts), 3)

    def test_as_the_functions_tell(self):
        for seed in range(12):
            one, other = tread_of(mixed_word(seed, 9)), tread_of(mixed_word(seed + 70, 9))
            goal = product(product(one, tread_of(mixed_word(seed + 40, 20))), other)
            answers = Answers(one, other, goal)
            self.assertEqual((answers.least(), answers.most(), answers.how_many()), solutions(one, other, goal))
            count = answers.how_many()
            for number in sorted({0, 1 % count, count // 3, count // 2, count - 1}):
                tread = answers.at(number)
                self.assertEqual(tread, solution_at(one, other, goal, number))
                self.assertEqual(answers.number_of(tread), number_of(one, other, goal, tread))
                self.assertEqual(product(product(one, tread), other), goal)

    def test_treads_that_are_none(self):
        treads = [slow_tread(word) for word in words_up_to(3, "aAb") + ["bBcC", "AabBcC", "aAbBcCdD"]] + sample_treads()
        for answers, stood in pairs():
            for tread in treads:
                self.assertIs(tread in answers, tread in stood)
                if tread not in stood:
                    self.assertIsNone(answers.number_of(tread))

    def test_things_in_answers(self):
        for answers, stood in pairs():
            for thing in NO_TREADS + NO_WORDS + (path_tread(201), wide_tread(202), answers, Walk(""), list(stood)):
                self.assertIs(thing in answers, False)
            for places, end in stood:
                for thing in ([places, end], (list(places), end), (places, [end]), (places,), places, (places, end, end)):
                    self.assertIs(thing in answers, False)

    def test_great_ones(self):
        straight, wide = path_tread(200), wide_tread(201)
        for tread in (straight, wide, spare_of(straight)):
            one = Answers(EMPTY, EMPTY, tread)
            self.check_answers(one, [tread])
            self.check_answers(~~one, [tread])
        many = Answers(wide, EMPTY, wide)
        self.assertEqual([many.least(), many.most()], [EMPTY, wide])
        count = many.how_many()
        self.assertGreater(count, 10 ** 30)
        for number in (0, 1, 2, 10 ** 30, count // 2, count - 2, count - 1):
            tread = many.at(number)
            self.assertIs(is_tread(tread), True)
            self.assertEqual(many.number_of(tread), number)
            self.assertEqual(product(wide, tread), wide)
        for number in (-1, count, count + 1):
            self.assertRaises(NoNumber, many.at, number)
        long = Answers(straight, EMPTY, straight)
        self.assertEqual(long.how_many(), 201)
        self.assertEqual(long.at(0), EMPTY)
        self.assertEqual(long.at(200), (tuple("A" * k for k in range(201)), ""))
        self.assertEqual(long.at(200), long.most())


class NewAnswersTest(AnswersCase):
    def test_of_both(self):
        many = {}
        for (one, treads), (other, others) in itertools.product(pairs(), repeat=2):
            both = one & other
            expected = [tread for tread in treads if tread in others]
            self.check_answers(both, expected)
            self.assertIsNot(both, one)
            self.check_answers(one, treads)
            self.check_answers(other, others)
            if len(expected) < min(len(treads), len(others)):
                many[min(len(expected), 2)] = True
        self.assertEqual(sorted(many), [0, 1, 2])

    def test_both_with_nothing_in_common(self):
        far, wide = spare_of(path_tread(150)), spare_of(tread_of("b" * 150))
        self.check_answers(Answers(EMPTY, EMPTY, far) & Answers(EMPTY, EMPTY, wide), [])
        self.check_answers(Answers(EMPTY, EMPTY, tread_of("a")) & Answers(EMPTY, EMPTY, tread_of("b")), [])
        self.check_answers(Answers(EMPTY, EMPTY, tread_of("aAb")) & Answers(EMPTY, EMPTY, tread_of("b")), [])
        # Their ends are alike, but the least of the one is not within the most of the other.
        one, other = Answers(tread_of("bB"), EMPTY, tread_of("aAbB")), Answers(tread_of("aA"), EMPTY, tread_of("aA"))
        self.check_answers(one & other, [tread_of("aA")])
        self.check_answers(one & Answers(tread_of("cC"), EMPTY, tread_of("cCbB")), [])
        self.check_answers(one & Answers(tread_of("b"), EMPTY, tread_of("ba")), [])

    def test_backs(self):
        for answers, treads in pairs():
            self.check_answers(~answers, turned(treads))
            self.check_answers(~~answers, treads)
            self.check_answers(answers, treads)
            self.assertIsNot(~answers, answers)
            for tread in treads:
                self.assertIs(back_of(tread) in ~answers, True)
        self.check_answers(~answers_of(("b", "", "a")), [])

    def test_numbers_of_backs_are_their_own(self):
        answers = Answers(tread_of("aAbB"), EMPTY, tread_of("bBaAaAc"))
        self.assertEqual(answers.how_many(), 4)
        self.assertEqual((~answers).at(1), turned([answers.at(k) for k in range(4)])[1])
        answers = Answers(tread_of("aAbaAB"), EMPTY, tread_of("aAbaAcCB" + "a"))
        self.check_answers(~answers, turned(slow_answers(("aAbaAB", "", "aAbaAcCBa"))))

    def test_taking_and_barring(self):
        for answers, treads in pairs():
            most = answers.most()
            places = list(most[0]) if treads else []
            for place in places + words_up_to(1) + ["ab", "ba", "cc", "Bab", "abcab"]:
                taken, barred = answers.taking(place), answers.barring(place)
                self.check_answers(taken, [tread for tread in treads if place in tread[0]])
                self.check_answers(barred, [tread for tread in treads if place not in tread[0]])
                self.assertEqual(taken.how_many() + barred.how_many(), answers.how_many())
                self.assertIsNot(taken, answers)
                self.assertIsNot(barred, answers)
            self.check_answers(answers, treads)

    def test_places_that_all_some_or_none_tread(self):
        answers = Answers(tread_of("a"), EMPTY, tread_of("abBcC"))
        all_of_them = [tread_of("bBcC"), tread_of("AabBcC")]
        self.check_answers(answers, all_of_them)
        for place in ("", "b", "c"):
            self.check_answers(answers.taking(place), all_of_them)
            self.check_answers(answers.barring(place), [])
        self.check_answers(answers.taking("A"), all_of_them[1:])
        self.check_answers(answers.barring("A"), all_of_them[:1])
        for place in ("a", "bb", "Ab", "d", "B"):
            self.check_answers(answers.taking(place), [])
            self.check_answers(answers.barring(place), all_of_them)

    def test_places_of_200_letters(self):
        answers = Answers(path_tread(200), EMPTY, path_tread(200))
        self.assertEqual(answers.taking("A" * 200).how_many(), 1)
        self.assertEqual(answers.barring("A" * 200).how_many(), 200)
        self.assertEqual(answers.barring("A" * 100).how_many(), 100)
        self.assertEqual(answers.taking("A" * 100).how_many(), 101)
        self.assertEqual(answers.taking("a" * 200).how_many(), 0)
        self.assertEqual(answers.barring("ab" * 100).how_many(), 201)
        none = answers_of(("b", "", "a"))
        self.assertEqual(none.taking("a" * 200).how_many() + none.barring("a" * 200).how_many(), 0)

    def test_what_came_of_others(self):
        base = pairs()
        for k, (answers, treads) in enumerate(base):
            other, others = base[(k * 5 + 3) % len(base)]
            for place, second in (("a", "b"), ("A", "c"), ("b", "B"), ("ab", "Ab"), ("c", "")):
                taken = [tread for tread in treads if place in tread[0]]
                barred = [tread for tread in taken if second not in tread[0]]
                self.check_answers(answers.taking(place).barring(second), barred)
                self.check_answers(answers.barring(second).taking(place), barred)
                self.check_answers(~answers.taking(place), turned(taken))
                self.check_answers((~answers.taking(place)) & ~answers, turned(taken))
                self.check_answers(answers.taking(place) & other, [tread for tread in taken if tread in others])
                self.check_answers(
                    (~answers).barring(place), [tread for tread in turned(treads) if place not in tread[0]],
                )
                self.check_answers(answers.taking(place) & answers.barring(place), [])


class EqualTest(AnswersCase):
    def test_equal_ones(self):
        made = pairs() + [(~answers, turned(treads)) for answers, treads in pairs()]
        made += [(answers.taking("b"), [tread for tread in treads if "b" in tread[0]]) for answers, treads in pairs()]
        for (one, treads), (other, others) in itertools.product(made, repeat=2):
            self.assertIs(one == other, treads == others)
            self.assertIs(one != other, treads != others)

    def test_of_unlike_equations(self):
        one = Answers(tread_of("a"), EMPTY, tread_of("ab"))
        self.assertIs(one == Answers(tread_of("c"), EMPTY, tread_of("cb")), False)
        self.assertIs(one.barring("A") == Answers(EMPTY, EMPTY, tread_of("b")), True)
        self.assertIs(one.barring("A") == Answers(tread_of("c"), EMPTY, tread_of("cb")).barring("C"), True)
        self.assertIs(one == one.taking("b"), True)
        self.assertIs(one == one.taking("A"), False)

    def test_those_that_stand_for_none(self):
        one, other = answers_of(("b", "", "a")), answers_of(("", "b", "aA"))
        rest = answers_of(("", "", "ab"))
        nones = [one, other, ~one, one & rest, rest & one, rest.taking("b"), rest.barring(""), one.taking(""), rest & ~rest]
        for a, b in itertools.product(nones, repeat=2):
            self.assertIs(a == b, True)
            self.assertIs(a != b, False)
            self.assertIs(a == rest, False)
            self.check_answers(a & b, [])
        for none in nones:
            self.check_answers(none, [])
            self.assertIsNone(none.number_of(EMPTY))

    def test_what_is_no_answers(self):
        for answers in (answers_of(("", "", "")), answers_of(("b", "", "a")), answers_of(("a", "", "ab"))):
            for thing in NO_ANSWERS:
                self.assertIs(answers == thing, False)
                self.assertIs(thing == answers, False)
                self.assertIs(answers != thing, True)


class InPlaceTest(AnswersCase):
    def test_of_both(self):
        for (_, treads), (_, others), (row, line) in zip(
            [pair for pair in pairs() for _ in EQUATIONS], pairs() * len(EQUATIONS),
            itertools.product(EQUATIONS, repeat=2),
        ):
            answers = was = answers_of(row)
            other = answers_of(line)
            answers &= other
            self.assertIs(answers, was)
            self.check_answers(was, [tread for tread in treads if tread in others])
            self.check_answers(other, others)

    def test_by_itself(self):
        for answers, treads in pairs():
            was = answers
            answers &= answers
            self.assertIs(answers, was)
            self.check_answers(answers, treads)

    def test_what_came_of_it_before(self):
        answers = Answers(tread_of("a"), EMPTY, tread_of("abBcC"))
        same, turned_ones, taken, barred = answers, ~answers, answers.taking("b"), answers.barring("d")
        both, most = answers & answers, answers.most()
        answers &= Answers(EMPTY, EMPTY, tread_of("bBcC"))
        self.check_answers(same, [tread_of("bBcC")])
        for made in (turned_ones, taken, barred, both):
            self.check_answers(made, [tread_of("bBcC"), tread_of("AabBcC")])
        self.assertEqual(most, tread_of("AabBcC"))
        taken &= answers_of(("b", "", "a"))
        self.check_answers(taken, [])
        self.check_answers(answers, [tread_of("bBcC")])
        self.check_answers(barred, [tread_of("bBcC"), tread_of("AabBcC")])


class ErrorsTest(AnswersCase):
    def test_no_tread(self):
        tread = tread_of("a")
        for thing in NO_TREADS + (path_tread(201), wide_tread(202), Walk("a")):
            with self.subTest(thing=repr(thing)):
                for row in ((thing, tread, tread), (tread, thing, tread), (tread, tread, thing), (thing, thing, thing)):
                    self.assertRaises(NoTread, Answers, *row)
                self.assertRaises(NoTread, answers_of(("a", "", "ab")).number_of, thing)
                self.assertRaises(NoTread, answers_of(("b", "", "a")).number_of, thing)

    def test_no_number(self):
        for row in EQUATIONS:
            answers = answers_of(row)
            for made in (answers, ~answers, answers.taking("b"), answers & answers):
                for thing in NO_INTEGERS + (-1, made.how_many(), tread_of("a")):
                    self.assertRaises(NoNumber, made.at, thing)

    def test_no_place(self):
        for answers, treads in pairs():
            for thing in NO_PLACES:
                self.assertRaises(NoPlace, answers.taking, thing)
                self.assertRaises(NoPlace, answers.barring, thing)
            self.check_answers(answers, treads)

    def test_no_answers(self):
        def shared(a, b):
            a &= b

        for answers, treads in pairs()[::4]:
            for thing in NO_ANSWERS:
                self.assertRaises(NoAnswers, lambda: answers & thing)
                self.assertRaises(NoAnswers, shared, answers, thing)
            self.check_answers(answers, treads)


class ArgumentsTest(AnswersCase):
    def test_by_their_names(self):
        a, ab, b = tread_of("a"), tread_of("ab"), tread_of("b")
        answers = Answers(goal=ab, other=EMPTY, one=a)
        self.check_answers(answers, [b, tread_of("Aab")])
        self.check_answers(Answers(one=EMPTY, other=b, goal=ab), [a, tread_of("abB")])
        self.assertEqual(answers.at(number=1), tread_of("Aab"))
        self.assertEqual(answers.number_of(tread=b), 0)
        self.check_answers(answers.taking(place="A"), [tread_of("Aab")])
        self.check_answers(answers.barring(place="A"), [b])

    def test_they_stay_as_they_are(self):
        thing = [["", "a"], "a"]
        answers = answers_of(("a", "", "ab"))
        for _ in range(2):
            self.assertRaises(NoTread, Answers, EMPTY, thing, None)
            self.assertRaises(NoTread, answers.number_of, thing)
            self.assertRaises(NoNumber, answers.at, thing)
            self.assertRaises(NoPlace, answers.taking, thing)
            self.assertRaises(NoPlace, answers.barring, thing)
            self.assertRaises(NoAnswers, lambda: answers & thing)
            self.assertIs(thing in answers, False)
            self.assertIs(answers == thing, False)
        self.assertEqual(thing, [["", "a"], "a"])
        self.check_answers(answers, [tread_of("b"), tread_of("Aab")])


class SequencesTest(AnswersCase):
    """Promise [14]: after any calls an Answers answers as a new one that stands for the same."""

    def refuse(self, answers, thing):
        """Raise errors on an Answers, all of which have to leave it as it was."""
        def shared(a, b):
            a &= b

        self.assertRaises(NoNumber, answers.at, answers.how_many())
        self.assertRaises(NoPlace, answers.taking, "aA")
        self.assertRaises(NoPlace, answers.barring, thing)
        self.assertRaises(NoTread, answers.number_of, [thing])
        self.assertRaises(NoAnswers, lambda: answers & thing)
        self.assertRaises(NoAnswers, shared, answers, thing)

    def following(self, pair, other_pair, place, kind):
        """Return an Answers that comes of one, or itself changed in place, beside what it stands for."""
        (answers, treads), (other, others) = pair, other_pair
        if kind == 0:
            return (other & other, others)
        if kind == 1:
            answers &= other
            return (answers, [tread for tread in treads if tread in others])
        if kind == 2:
            answers &= answers.taking(place)
            return (answers, [tread for tread in treads if place in tread[0]])
        if kind == 3:
            return (~answers, turned(treads))
        if kind == 4:
            return (answers.taking(place), [tread for tread in treads if place in tread[0]])
        return (answers.barring(place), [tread for tread in treads if place not in tread[0]])

    def test_long_ones(self):
        base = pairs()
        for seed in range(8):
            stood = [base[(seed * 5 + k * 4) % len(base)] for k in range(4)]
            stood = [(answers & answers, treads) for answers, treads in stood]
            for k, kind in enumerate(mixed_word(seed, 60, "0123345")):
                place = ("a", "A", "b", "c", "ab", "d", "B", "")[(k * 3 + seed) % 8]
                self.refuse(stood[k % 4][0], (None, 0, tread_of("a"), "x")[k % 4])
                # What stands for none has nothing left to narrow.
                kind = int(kind) if stood[k % 4][1] or k % 3 else 0
                stood[k % 4] = self.following(stood[k % 4], base[(k * 7 + seed) % len(base)], place, kind)
                for made, expected in stood:
                    self.check_answers(made, expected)
            for answers, treads in base:
                self.check_answers(answers, treads)

    def test_as_new_ones(self):
        # What is left of one equation by changes is all that another one has.
        answers = Answers(tread_of("a"), EMPTY, tread_of("abBcC"))
        self.refuse(answers, None)
        answers &= answers.barring("A")
        self.refuse(answers, "aA")
        new = Answers(EMPTY, EMPTY, tread_of("bBcC"))
        self.assertTrue(answers == new and new == answers and ~answers == ~new)
        self.assertEqual([answers.least(), answers.most(), answers.at(0)], [new.least(), new.most(), new.at(0)])
        self.assertEqual(Wishes(answers).state(), Wishes(new).state())


class AllAnswersTest(AnswersCase):
    """Promise [14], where it speaks of answers."""

    def test_the_number_of_solutions_is_what_numbers_reach(self):
        for answers, treads in pairs():
            for made in (answers, ~answers, answers.taking("b"), answers.barring("c"), answers & answers.taking("a")):
                found = [made.at(number) for number in range(made.how_many())]
                self.assertEqual(len(set(found)), made.how_many())
                self.assertEqual(found, in_numbers(found))
                self.assertRaises(NoNumber, made.at, len(found))

    def test_great_ones(self):
        for seed in range(6):
            goal = tread_of(mixed_word(seed, 90))
            spare = spare_of(goal)
            one = Answers(spare, EMPTY, goal)
            other = Answers(tread_of(""), spare_of(tread_of(mixed_word(seed, 20))), goal)
            count = one.how_many()
            for number in (0, count // 5, count // 2, count - 1):
                tread = one.at(number)
                self.assertEqual(one.number_of(tread), number)
                self.assertEqual(product(spare, tread), goal)
                self.assertIs(tread in (one & other), tread in other)
            for place in goal[0][::7]:
                taken, barred = one.taking(place), one.barring(place)
                self.assertEqual(taken.how_many() + barred.how_many(), count)
                for made, trodden in ((taken, True), (barred, False)):
                    if made.how_many():
                        for number in (0, made.how_many() // 2, made.how_many() - 1):
                            self.assertIs(place in made.at(number)[0], trodden)
                            self.assertIs(made.at(number) in one, True)
                            self.assertEqual(made.number_of(made.at(number)), number)


if __name__ == "__main__":
    unittest.main()
