"""Descents, which lead words down to their least words step by step: promise [10]."""

from solvedtreads.errors import TooGreat
from solvedtreads.treads import least_word, stops_of, tread_of
from solvedtreads.words import check_word

MOST_LETTERS_DOWN = 60
MOST_WORDS = 4000


def check_short(word):
    """Raise NoWord for what is no word, TooGreat for one of more than 60 letters."""
    check_word(word)
    if len(word) > MOST_LETTERS_DOWN:
        raise TooGreat("a word of at most 60 letters is due")


def exchanged(word, start, middle, end):
    """Return a word with its stretch up to a middle and that behind the middle exchanged."""
    return word[:start] + word[middle:end] + word[start:middle] + word[end:]


def same_letters(word, other):
    """Return how many letters two different words of one length begin with alike."""
    same = 0
    while word[same] == other[same]:
        same += 1
    return same


def thrice_gone(word):
    """Return the first three times when a word goes between the same two places, or None."""
    stops = stops_of(word)
    times = {}
    for time in range(len(word)):
        # Of two neighbors the farther one tells the other one, too.
        pair = max(stops[time], stops[time + 1], key=len)
        times.setdefault(pair, []).append(time)
        if len(times[pair]) == 3:
            return times[pair]
    return None


def words_to_shorter(word, times):
    """Return words from a word to a shorter one, some of which may be as those ahead of them."""
    first, second, third = times
    # The walk is on one side of the way gone thrice between the first two times
    # and on the other one between the last two: of xLXMx both L and M lead back.
    home_first = exchanged(word, first + 1, second, third + 1)
    # It is xXMxL now.
    end = first + 1 + third - second
    side_by_side = exchanged(home_first, first, first + 2, end)
    # It is MxXxL now.
    return [home_first, side_by_side, side_by_side[:end - 2] + side_by_side[end:]]


def nearer_word(word, goal):
    """Return what an exchange makes of a word so that it begins with more of its least word.

    The word is as short as that one, so it goes into each side branch just once.
    """
    stops = stops_of(word)
    start = same_letters(word, goal)
    # Up to here the same is trodden, so the branch that is due is still to come.
    middle = start + 1
    while stops[middle] != stops[start] or word[middle] != goal[start]:
        middle += 1
    end = middle + 1
    while stops[end] != stops[start]:
        end += 1
    return exchanged(word, start, middle, end)


def descent(word):
    """Return a list of words that leads from a word down to its least one."""
    check_short(word)
    words = [word]
    times = thrice_gone(word)
    while times is not None:
        following = words_to_shorter(words[-1], times)
        for other in following:
            # An exchange that gives the same word again is no step.
            if other != words[-1]:
                words.append(other)
        times = thrice_gone(words[-1])
    goal = least_word(tread_of(word))
    while words[-1] != goal:
        words.append(nearer_word(words[-1], goal))
    return words


def is_shortening(word, other):
    """Return whether a word becomes another one by leaving a letter and its back out."""
    for time in range(len(word) - 2):
        letter = word[time]
        if word[time:time + 3] == letter + letter.swapcase() + letter:
            if word[:time] + word[time + 2:] == other:
                return True
    return False


def is_exchange(word, other):
    """Return whether an exchange makes another word of the same length of a word."""
    stops = stops_of(word)
    # What is exchanged begins and ends where the words are still alike.
    last_start = same_letters(word, other)
    first_end = len(word) - same_letters(word[::-1], other[::-1])
    for start in range(last_start + 1):
        returns = [time for time in range(start + 1, len(stops)) if stops[time] == stops[start]]
        for end in returns:
            if end >= first_end:
                found = [exchanged(word, start, middle, end) for middle in returns if middle < end]
                if other in found:
                    return True
    return False


def is_step(word, thing):
    """Return whether a thing is a word that comes from a word in one step."""
    if not isinstance(thing, str) or thing == word:
        return False
    if len(thing) == len(word):
        return is_exchange(word, thing)
    return len(thing) == len(word) - 2 and is_shortening(word, thing)


def shows_descent(word, thing):
    """Return whether a thing is a descent of a word of at most 4000 words."""
    check_short(word)
    if not isinstance(thing, list) or not 1 <= len(thing) <= MOST_WORDS:
        return False
    if thing[0] != word or thing[-1] != least_word(tread_of(word)):
        return False
    for one, other in zip(thing, thing[1:]):
        if not is_step(one, other):
            return False
    return True
