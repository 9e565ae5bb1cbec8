"""Answers, objects that stand for solutions of equations: promise [12].

What an Answers stands for are the treads between two ends, a least tread and a
greatest one, that end at the same place; there are no such ends if it stands for none.
"""

from solvedtreads.equations import check_equation, count_between, is_between, least_and_most, number_between, tread_at
from solvedtreads.errors import NoAnswers, NoNumber
from solvedtreads.orders import has_all, shared
from solvedtreads.products import EMPTY_TREAD, is_whole, turned
from solvedtreads.treads import check_tread, is_tread
from solvedtreads.words import check_place, in_order


def check_answers(thing):
    """Raise NoAnswers for what is no Answers."""
    if not isinstance(thing, Answers):
        raise NoAnswers("an Answers is due")


def answers_between(ends):
    """Return a new Answers for the treads between two ends, for none if these are None."""
    made = Answers(EMPTY_TREAD, EMPTY_TREAD, EMPTY_TREAD)
    made._ends = ends
    return made


def ends_of_both(one, other):
    """Return the ends of what is between both ends of one and both of other, or None."""
    if one is None or other is None:
        return None
    (least, goal), (most, _) = one
    (other_least, other_goal), (other_most, _) = other
    if goal != other_goal or not has_all(most, other_least) or not has_all(other_most, least):
        return None
    return ((in_order(least + other_least), goal), (shared(most, other_most), goal))


def ends_turned(ends):
    """Return the ends of the backs of what is between two ends, or None."""
    if ends is None:
        return None
    # As all have the same end, their backs tread more of each other as they do.
    return (turned(ends[0]), turned(ends[1]))


def ends_taking(ends, place):
    """Return the ends of what treads a place, or None."""
    if ends is None:
        return None
    (least, goal), most = ends
    if place not in most[0]:
        return None
    # No walk comes to a place but by all its beginnings.
    beginnings = tuple([place[:length] for length in range(len(place) + 1)])
    return ((in_order(least + beginnings), goal), most)


def ends_barring(ends, place):
    """Return the ends of what does not tread a place, or None."""
    if ends is None:
        return None
    least, (most, goal) = ends
    if place in least[0]:
        return None
    # What is behind the place is barred with it.
    return (least, (tuple([other for other in most if not other.startswith(place)]), goal))


class Answers:
    """What stands for the solutions of an equation, or for some of these."""

    def __init__(self, one, other, goal):
        check_equation(one, other, goal)
        self._ends = least_and_most(one, other, goal)

    def how_many(self):
        """Return the number of the solutions."""
        if self._ends is None:
            return 0
        least, most = self._ends
        return count_between(least, most)

    def least(self):
        """Return the solution that all others tread all of, None if there are none."""
        return None if self._ends is None else self._ends[0]

    def most(self):
        """Return the solution that treads all of all others, None if there are none."""
        return None if self._ends is None else self._ends[1]

    def at(self, number):
        """Return the solution with a number."""
        if not is_whole(number, 0, self.how_many() - 1):
            raise NoNumber("the number of a solution is due")
        least, most = self._ends
        return tread_at(least, most, number)

    def number_of(self, tread):
        """Return the number of a solution, None for a tread that is none."""
        check_tread(tread)
        if tread not in self:
            return None
        least, most = self._ends
        return number_between(least, most, tread)

    def taking(self, place):
        """Return a new Answers for the solutions that tread a place."""
        check_place(place)
        return answers_between(ends_taking(self._ends, place))

    def barring(self, place):
        """Return a new Answers for the solutions that do not tread a place."""
        check_place(place)
        return answers_between(ends_barring(self._ends, place))

    def __contains__(self, x):
        if self._ends is None or not is_tread(x):
            return False
        least, most = self._ends
        return is_between(least, most, x)

    def __eq__(self, other):
        return isinstance(other, Answers) and self._ends == other._ends

    def __invert__(self):
        return answers_between(ends_turned(self._ends))

    def __and__(self, other):
        check_answers(other)
        return answers_between(ends_of_both(self._ends, other._ends))

    def __iand__(self, other):
        check_answers(other)
        self._ends = ends_of_both(self._ends, other._ends)
        return self
