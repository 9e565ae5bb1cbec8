"""Treads, which tell what a walk trod and where it ended: promises [3] and [4]."""

from solvedtreads.errors import NoTread
from solvedtreads.words import LETTERS, check_word, in_order, is_place, is_word, step

MOST_PLACES = 201


def are_places_of_tread(places):
    """Return whether a tuple holds the places of a tread, in their order."""
    for place in places:
        if not is_place(place):
            return False
    if places != in_order(places):
        return False
    present = set(places)
    for place in places:
        # The empty place asks for itself here, and each other place leads to it.
        if place[:-1] not in present:
            return False
    return True


def is_tread(thing):
    """Return whether a thing is a tread."""
    if not isinstance(thing, tuple) or len(thing) != 2:
        return False
    places, end = thing
    if not isinstance(places, tuple) or not 1 <= len(places) <= MOST_PLACES:
        return False
    return are_places_of_tread(places) and end in places


def check_tread(tread):
    """Raise NoTread for what is no tread."""
    if not is_tread(tread):
        raise NoTread("a tread is due")


def stops_of(word):
    """Return to which places the beginnings of a word lead, from the empty one on."""
    stops = [""]
    for letter in word:
        stops.append(step(stops[-1], letter))
    return stops


def walked(word):
    """Return the places and the end of a word of any length."""
    stops = stops_of(word)
    return (in_order(stops), stops[-1])


def tread_of(word):
    """Return the tread of a word."""
    check_word(word)
    return walked(word)


def alike(word, other):
    """Return whether two words have the same tread."""
    check_word(word)
    check_word(other)
    return walked(word) == walked(other)


def letter_toward(place, goal):
    """Return the first letter of the way from a place to a goal, None at the goal."""
    if place == goal:
        return None
    if goal.startswith(place):
        return goal[len(place)]
    return place[-1].swapcase()


def places_on_ways(start, goals):
    """Return a dict of True by the places on the ways from start to all goals."""
    passed = {start: True}
    for goal in goals:
        place = goal
        # From the first place that is in already, the way to start is in too.
        while place not in passed:
            passed[place] = True
            place = step(place, letter_toward(place, start))
    return passed


def next_letter(place, end, left):
    """Return the next letter of the first shortest walk by all places that are left."""
    homeward = letter_toward(place, end)
    # On a shortest walk no step toward the end is taken twice, so it has to wait
    # until nothing is left on the other sides.
    for letter in LETTERS:
        if letter != homeward and step(place, letter) in left:
            return letter
    return homeward


def shortest_walk(start, end, goals):
    """Return the first of the shortest words from start to end by all goals."""
    passed = places_on_ways(start, goals + [end])
    left = {place: True for place in passed if place != start}
    place = start
    letters = []
    letter = next_letter(place, end, left)
    while letter is not None:
        letters.append(letter)
        place = step(place, letter)
        left.pop(place, None)
        letter = next_letter(place, end, left)
    return "".join(letters)


def rest_of(word, tread):
    """Return the rest_word of a word and a tread that are known to be such."""
    places, end = tread
    trodden, start = walked(word)
    present = set(places)
    for place in trodden:
        if place not in present:
            return None
    done = set(trodden)
    return shortest_walk(start, end, [place for place in places if place not in done])


def rest_word(word, tread):
    """Return the first of the shortest words that complete a word to a tread, or None."""
    check_word(word)
    check_tread(tread)
    return rest_of(word, tread)


def least_word(tread):
    """Return the first of the shortest words that have a tread."""
    check_tread(tread)
    return rest_of("", tread)


def least_length(tread):
    """Return how many letters the shortest words of a tread have."""
    places, end = tread
    return 2 * (len(places) - 1) - len(end)


def shows_least(tread, thing):
    """Return whether a thing is one of the shortest words that have a tread."""
    check_tread(tread)
    if not is_word(thing) or len(thing) != least_length(tread):
        return False
    return walked(thing) == tread
