"""The errors of the interface."""

import unittest

from solvedtreads import errors

NAMES = (
    "NoWord", "NoPlace", "NoTread", "NoPower", "NoNumber", "NoMakers", "NoWalk", "NoAnswers", "NoWishes", "NoUndo",
    "NoThings", "NoMatch", "TooGreat",
)


class ErrorsTest(unittest.TestCase):
    def test_the_one_above_all(self):
        self.assertEqual(errors.TreadError.__bases__, (ValueError,))
        self.assertEqual(errors.TreadError.__module__, "solvedtreads.errors")

    def test_each_stands_directly_below_it(self):
        for name in NAMES:
            with self.subTest(name=name):
                error = getattr(errors, name)
                self.assertEqual(error.__bases__, (errors.TreadError,))
                self.assertEqual(error.__name__, name)
                self.assertEqual(error.__module__, "solvedtreads.errors")

    def test_they_are_made_from_a_text(self):
        for name in NAMES + ("TreadError",):
            with self.subTest(name=name):
                self.assertEqual(str(getattr(errors, name)("some text")), "some text")

    def test_there_are_no_others(self):
        found = [name for name in vars(errors) if not name.startswith("__")]
        self.assertEqual(sorted(found), sorted(NAMES + ("TreadError",)))


if __name__ == "__main__":
    unittest.main()
