"""Treads put together, turned back and repeated: promise [5]."""

from solvedtreads.errors import NoPower, TooGreat
from solvedtreads.treads import MOST_PLACES, check_tread
from solvedtreads.words import follow, in_order, step, turn

EMPTY_TREAD = (("",), "")

MOST_TIMES = 20


def is_whole(thing, least, most):
    """Return whether a thing is an integer from least to most."""
    if isinstance(thing, bool) or not isinstance(thing, int):
        return False
    return least <= thing <= most


def places_behind(start, places):
    """Return where the places of a tread lead from a start, in the order of these."""
    led = {}
    for place in places:
        led[place] = step(led[place[:-1]], place[-1]) if place else start
    return list(led.values())


def all_places(rows):
    """Return the places of all rows as those of one tread."""
    places = in_order([place for row in rows for place in row])
    if len(places) > MOST_PLACES:
        raise TooGreat("a tread has at most 201 places")
    return places


def put_together(one, other):
    """Return the product of two that are known to be treads."""
    places, end = one
    others, goal = other
    return (all_places([places, places_behind(end, others)]), follow(end, goal))


def turned(tread):
    """Return the back of what is known to be a tread."""
    places, end = tread
    start = turn(end)
    return (in_order(places_behind(start, places)), start)


def product(one, other):
    """Return the tread of words with these treads put together."""
    check_tread(one)
    check_tread(other)
    return put_together(one, other)


def back_of(tread):
    """Return the tread of the back of a word with this tread."""
    check_tread(tread)
    return turned(tread)


def power(tread, e):
    """Return the product of e times a tread, of its back for an e below 0."""
    check_tread(tread)
    if not is_whole(e, -MOST_TIMES, MOST_TIMES):
        raise NoPower("an integer from -20 to 20 is due")
    factor = turned(tread) if e < 0 else tread
    answer = EMPTY_TREAD
    # No product has fewer places than what it is made of, so one on the way
    # is too great only if the answer is.
    for _ in range(abs(e)):
        answer = put_together(answer, factor)
    return answer
