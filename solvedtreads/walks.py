"""Walks, objects that have the tread of a word: promise [11]."""

from solvedtreads.errors import NoMatch, NoPower, NoWalk
from solvedtreads.orders import common, least_over, treads_all
from solvedtreads.products import MOST_TIMES, back_of, is_whole, power, product
from solvedtreads.treads import least_word, tread_of


def walk_of(tread):
    """Return a new Walk with a tread."""
    # The least word may be too long to be passed, so the tread comes later.
    made = Walk("")
    made._tread = tread
    return made


def check_walk(thing):
    """Raise NoWalk for what is no Walk."""
    if not isinstance(thing, Walk):
        raise NoWalk("a Walk is due")


def check_match(one, other):
    """Raise NoWalk if other is no Walk, NoMatch if it ends elsewhere."""
    check_walk(other)
    if one.end != other.end:
        raise NoMatch("the walks have to end at the same place")


def tread_times(one, other):
    """Return the product of the treads of a Walk and of what has to be one."""
    check_walk(other)
    return product(one._tread, other._tread)


def tread_power(walk, e):
    """Return the power of the tread of a Walk."""
    if not is_whole(e, 0, MOST_TIMES):
        raise NoPower("an integer from 0 to 20 is due")
    return power(walk._tread, e)


def tread_over(one, other):
    """Return the least tread over those of a Walk and of what has to be one."""
    check_match(one, other)
    return least_over(one._tread, other._tread)


def tread_common(one, other):
    """Return what the treads of a Walk and of what has to be one have in common."""
    check_match(one, other)
    return common(one._tread, other._tread)


class Walk:
    """What has the tread of a word."""

    def __init__(self, word):
        self._tread = tread_of(word)

    def tread(self):
        """Return the tread."""
        return self._tread

    def word(self):
        """Return the least word with this tread."""
        return least_word(self._tread)

    @property
    def places(self):
        """The places of the tread."""
        return self._tread[0]

    @property
    def end(self):
        """The end of the tread."""
        return self._tread[1]

    def covers(self, other):
        """Return whether this one treads all of another Walk and ends at the same place."""
        check_walk(other)
        return treads_all(self._tread, other._tread)

    def __len__(self):
        return len(self._tread[0])

    def __contains__(self, x):
        return x in self._tread[0]

    def __eq__(self, other):
        return isinstance(other, Walk) and self._tread == other._tread

    def __invert__(self):
        return walk_of(back_of(self._tread))

    def __mul__(self, other):
        return walk_of(tread_times(self, other))

    def __imul__(self, other):
        self._tread = tread_times(self, other)
        return self

    def __pow__(self, other):
        return walk_of(tread_power(self, other))

    def __ipow__(self, other):
        self._tread = tread_power(self, other)
        return self

    def __or__(self, other):
        return walk_of(tread_over(self, other))

    def __ior__(self, other):
        self._tread = tread_over(self, other)
        return self

    def __and__(self, other):
        return walk_of(tread_common(self, other))

    def __iand__(self, other):
        self._tread = tread_common(self, other)
        return self
