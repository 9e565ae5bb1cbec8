"""The errors of the package, each made from a text."""


class TreadError(ValueError):
    """Any error that the package raises of its own."""


class NoWord(TreadError):
    """What is due as a word is no word of at most 200 letters."""


class NoPlace(TreadError):
    """What is due as a place is no place that may stand there."""


class NoTread(TreadError):
    """What is due as a tread is none."""


class NoPower(TreadError):
    """What is due as an exponent is no integer within its bounds."""


class NoNumber(TreadError):
    """What is due as the number of a solution is none."""


class NoMakers(TreadError):
    """What is due as makers is no list of 1 to 8 treads."""


class NoWalk(TreadError):
    """What is due as a Walk is none."""


class NoAnswers(TreadError):
    """What is due as an Answers is none."""


class NoWishes(TreadError):
    """What is due as a Wishes is none."""


class NoUndo(TreadError):
    """There is no wish that could be taken back."""


class NoThings(TreadError):
    """What is due as things to try is no list of strings and such lists."""


class NoMatch(TreadError):
    """Two walks that are put over each other do not end at the same place."""


class TooGreat(TreadError):
    """An answer would be greater than what the package holds."""
