"""Words, their backs, and places, which are reduced words: promise [2]."""

from solvedtreads.errors import NoPlace, NoWord

# They stand in the order of strings, which is that of places of one letter.
LETTERS = "ABCDabcd"

MOST_LETTERS = 200


def is_word(thing):
    """Return whether a thing is a word, of any length."""
    if not isinstance(thing, str):
        return False
    for letter in thing:
        if letter not in LETTERS:
            return False
    return True


def is_place(thing):
    """Return whether a thing is a place, of any length."""
    if not is_word(thing):
        return False
    for letter, following in zip(thing, thing[1:]):
        if following == letter.swapcase():
            return False
    return True


def check_word(word):
    """Raise NoWord for what is no word of at most 200 letters."""
    if not is_word(word) or len(word) > MOST_LETTERS:
        raise NoWord("a word of at most 200 letters is due")


def check_place(place):
    """Raise NoPlace for what is no place of at most 200 letters."""
    if not is_place(place) or len(place) > MOST_LETTERS:
        raise NoPlace("a place of at most 200 letters is due")


def turn(word):
    """Return the back of a word of any length."""
    return word[::-1].swapcase()


def step(place, letter):
    """Return where a step by one letter leads from a place."""
    if place.endswith(letter.swapcase()):
        return place[:-1]
    return place + letter


def follow(place, word):
    """Return where a walk leads from a place, both of any length."""
    for letter in word:
        place = step(place, letter)
    return place


def in_order(places):
    """Return the different ones of some places as an ascending tuple."""
    # The second sorting leaves those of one length as the first one put them.
    return tuple(sorted(sorted(set(places)), key=len))


def back(word):
    """Return the back of a word."""
    check_word(word)
    return turn(word)


def reduced(word):
    """Return a word without all neighbors that are each other's backs."""
    check_word(word)
    return follow("", word)


def behind(place, word):
    """Return where a walk along a word leads from a place."""
    check_place(place)
    check_word(word)
    return follow(place, word)
