"""Treads beside each other, and seen from other places: promise [6]."""

from solvedtreads.errors import NoPlace
from solvedtreads.products import all_places, places_behind
from solvedtreads.treads import check_tread
from solvedtreads.words import follow, in_order, turn


def has_all(places, others):
    """Return whether some places have all of others."""
    present = set(places)
    for place in others:
        if place not in present:
            return False
    return True


def shared(places, others):
    """Return the places that are in both, in the order of the first ones."""
    present = set(others)
    return tuple([place for place in places if place in present])


def seen(places, place):
    """Return the places of a tread as they are seen from one of them."""
    return in_order(places_behind(turn(place), places))


def treads_all(one, other):
    """Return whether a tread has all places of another one and the same end."""
    check_tread(one)
    check_tread(other)
    return one[1] == other[1] and has_all(one[0], other[0])


def least_over(one, other):
    """Return the tread with all places of both, None if their ends are not the same."""
    check_tread(one)
    check_tread(other)
    if one[1] != other[1]:
        return None
    return (all_places([one[0], other[0]]), one[1])


def common(one, other):
    """Return the tread with the places that are in both, None if their ends are not the same."""
    check_tread(one)
    check_tread(other)
    if one[1] != other[1]:
        return None
    return (shared(one[0], other[0]), one[1])


def spare_of(tread):
    """Return the tread with the same places that ends at the empty place."""
    check_tread(tread)
    return (tread[0], "")


def seen_from(tread, place):
    """Return a tread as it is seen from one of its places."""
    check_tread(tread)
    places, end = tread
    # What is no place at all is none of the tread's either.
    if place not in places:
        raise NoPlace("a place of the tread is due")
    return (seen(places, place), follow(turn(place), end))


def shift_of(one, other):
    """Return the place from which one's places are seen as just other's, or None."""
    check_tread(one)
    check_tread(other)
    for place in one[0]:
        if seen(one[0], place) == other[0]:
            return place
    return None
