"""Equations of treads and all their solutions, counted and numbered: promise [8]."""

from solvedtreads.errors import NoNumber
from solvedtreads.orders import has_all, seen
from solvedtreads.products import is_whole, places_behind
from solvedtreads.treads import check_tread, places_on_ways
from solvedtreads.words import follow, in_order, turn


def check_equation(one, other, goal):
    """Raise NoTread for the first one that is no tread."""
    check_tread(one)
    check_tread(other)
    check_tread(goal)


def least_and_most(one, other, goal):
    """Return the least and the greatest solution of an equation, None if there are none."""
    places, end = goal
    ahead, start = one
    # There the unknown walk has to end, for the walk behind it to reach the end.
    stop = follow(end, turn(other[1]))
    given = list(ahead) + places_behind(stop, other[0])
    if not has_all(places, given):
        return None
    home = turn(start)
    goal_end = follow(home, stop)
    done = set(given)
    due = [follow(home, place) for place in places if place not in done]
    # A walk treads all places on its ways from the empty place to those due.
    least = in_order(list(places_on_ways("", due + [goal_end])))
    return ((least, goal_end), (seen(places, start), goal_end))


def choices_above(least, most):
    """Return by each place of most in how many ways a tread that has it can go on behind it.

    The tread is one of those from least to most, so it has all places of least.
    """
    kept = set(least[0])
    counts = {place: 1 for place in most[0]}
    # The last ones first, so that a count is whole ahead of its use.
    for place in most[0][:0:-1]:
        here = counts[place] if place in kept else 1 + counts[place]
        counts[place[:-1]] = counts[place[:-1]] * here
    return counts


def count_between(least, most):
    """Return how many treads there are from least to most."""
    return choices_above(least, most)[""]


def is_between(least, most, tread):
    """Return whether a tread is one of those from least to most."""
    if tread[1] != least[1]:
        return False
    return has_all(tread[0], least[0]) and has_all(most[0], tread[0])


def tread_at(least, most, number):
    """Return the one with a number among the treads from least to most."""
    kept = set(least[0])
    counts = choices_above(least, most)
    many = counts[""]
    chosen = {"": True}
    for place in most[0][1:]:
        if place in kept:
            chosen[place] = True
        elif place[:-1] in chosen:
            # Those that lack this place come ahead of those that have it.
            many = many // (1 + counts[place])
            if number >= many:
                number = number - many
                many = many * counts[place]
                chosen[place] = True
    return (tuple(chosen), least[1])


def number_between(least, most, tread):
    """Return the number of one of the treads from least to most."""
    kept = set(least[0])
    trodden = set(tread[0])
    counts = choices_above(least, most)
    many = counts[""]
    number = 0
    for place in most[0][1:]:
        if place not in kept and place[:-1] in trodden:
            many = many // (1 + counts[place])
            if place in trodden:
                number = number + many
                many = many * counts[place]
    return number


def solutions(one, other, goal):
    """Return the least and the greatest solution and how many there are, or None."""
    check_equation(one, other, goal)
    ends = least_and_most(one, other, goal)
    if ends is None:
        return None
    least, most = ends
    return (least, most, count_between(least, most))


def solution_at(one, other, goal, number):
    """Return the solution with a number."""
    check_equation(one, other, goal)
    ends = least_and_most(one, other, goal)
    if ends is None or not is_whole(number, 0, count_between(ends[0], ends[1]) - 1):
        raise NoNumber("the number of a solution is due")
    least, most = ends
    return tread_at(least, most, number)


def number_of(one, other, goal, tread):
    """Return the number of a solution, None for a tread that is none."""
    check_equation(one, other, goal)
    check_tread(tread)
    ends = least_and_most(one, other, goal)
    if ends is None or not is_between(ends[0], ends[1], tread):
        return None
    least, most = ends
    return number_between(least, most, tread)
