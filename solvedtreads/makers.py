"""Makers, and which treads can be put together of them and their backs: promise [9]."""

from solvedtreads.errors import NoMakers
from solvedtreads.products import is_whole
from solvedtreads.treads import check_tread, is_tread
from solvedtreads.words import step

MOST_MAKERS = 8
MOST_MEMBERS = 20000


def check_makers(makers):
    """Raise NoMakers for what is no list of 1 to 8 treads."""
    if not isinstance(makers, list) or not 1 <= len(makers) <= MOST_MAKERS:
        raise NoMakers("a list of 1 to 8 treads is due")
    if not all([is_tread(maker) for maker in makers]):
        raise NoMakers("a maker is a tread")


def passed_within(start, places, present):
    """Return by each place of a tread where it leads from a start, None if not all are present."""
    led = {}
    for place in places:
        goal = step(led[place[:-1]], place[-1]) if place else start
        # Most starts fail early, which spares the rest of a long tread.
        if goal not in present:
            return None
        led[place] = goal
    return led


def moves_within(makers, places):
    """Return by each place the members of rows that can follow there and stay within.

    They are a dict: by the member, where it leads and a list of what it treads.
    """
    present = {place: True for place in places}
    moves = {place: {} for place in places}
    for number, (trodden, end) in enumerate(makers):
        for start in places:
            led = passed_within(start, trodden, present)
            if led is not None:
                goal, passed = led[end], list(led.values())
                moves[start][(number, 1)] = (goal, passed)
                moves[goal][(number, -1)] = (start, passed)
    return moves


def routes_within(moves):
    """Return by each place that rows reach one of the rows that lead there.

    What such a row begins with is the row for the place that it leads to.
    """
    routes = {"": []}
    newest = [""]
    while newest:
        found = []
        for place in newest:
            for member, (goal, _) in moves[place].items():
                if goal not in routes:
                    routes[goal] = routes[place] + [member]
                    found.append(goal)
        newest = found
    return routes


def trodden_by(moves, members):
    """Return a dict of True by all places that members, told with where they start, tread."""
    trodden = {"": True}
    for start, member in members:
        for place in moves[start][member][1]:
            trodden[place] = True
    return trodden


def bar_to_row(tread, moves, routes):
    """Return why no row makes a tread, None if one does."""
    places, end = tread
    if end not in routes:
        return ("end", tuple([place for place in places if place in routes]))
    trodden = trodden_by(moves, [(start, member) for start in routes for member in moves[start]])
    for place in places:
        if place not in trodden:
            return ("place", place)
    return None


def makes(makers, tread):
    """Return whether makers, of which there may be none, make a tread."""
    moves = moves_within(makers, tread[0])
    return bar_to_row(tread, moves, routes_within(moves)) is None


def turned_row(row):
    """Return the row that undoes a row."""
    return [(number, -sign) for number, sign in row[::-1]]


def led_by(row, moves):
    """Return where a row leads and a dict of True by what it treads, None if it leaves."""
    place = ""
    gone = {}
    for member in row:
        if member not in moves[place]:
            return None
        gone[(place, member)] = True
        place = moves[place][member][0]
    return (place, trodden_by(moves, list(gone)))


def stops_at(start, moves):
    """Return tuples of a row that comes back to a place and of what it treads there."""
    stops = [([], [start])]
    for member, (_, passed) in moves[start].items():
        stops.append(([member] + turned_row([member]), passed))
    return stops


def detours_due(moves, routes, last):
    """Return tuples of a route and of a row behind it that comes back to its end.

    Together with the last route they tread all that rows can tread.
    """
    trodden = led_by(last, moves)[1]
    detours = []
    # The farthest places first, as the routes to these tread much on their way.
    for start, route in list(routes.items())[::-1]:
        for detour, passed in stops_at(start, moves):
            if not all([place in trodden for place in passed]):
                detours.append((route, detour))
                trodden.update(led_by(route + detour, moves)[1])
    return detours


def way_between(route, goal):
    """Return the row from the end of one route to that of another one, where they do not part."""
    same = 0
    while same < min(len(route), len(goal)) and route[same] == goal[same]:
        same += 1
    return turned_row(route[same:]) + goal[same:]


def row_over(detours, last):
    """Return a row with all detours that stops at the end of a last route."""
    row = []
    here = []
    # Sorted, routes that begin alike follow each other, so that a place is left
    # for good when all behind it is done: no route is gone more than twice.
    for route, detour in sorted(detours) + [(last, [])]:
        row = row + way_between(here, route) + detour
        here = route
    return row


def is_member(thing, makers):
    """Return whether a thing is a maker's number with 1 or -1."""
    if not isinstance(thing, tuple) or len(thing) != 2:
        return False
    number, sign = thing
    return is_whole(number, 0, len(makers) - 1) and is_whole(sign, -1, 1) and sign != 0


def is_row(thing, makers):
    """Return whether a thing is a row of makers and backs of at most 20000 members."""
    if not isinstance(thing, list) or len(thing) > MOST_MEMBERS:
        return False
    return all([is_member(member, makers) for member in thing])


def way_of(makers, tread):
    """Return a row of makers and backs that makes a tread, or None."""
    check_makers(makers)
    check_tread(tread)
    moves = moves_within(makers, tread[0])
    routes = routes_within(moves)
    if bar_to_row(tread, moves, routes) is not None:
        return None
    last = routes[tread[1]]
    return row_over(detours_due(moves, routes, last), last)


def shows_way(makers, tread, thing):
    """Return whether a thing is a row of makers and backs that makes a tread."""
    check_makers(makers)
    check_tread(tread)
    if not is_row(thing, makers):
        return False
    places, end = tread
    led = led_by(thing, moves_within(makers, places))
    # All that such a row treads is within, so it is all if it is as many.
    return led is not None and led[0] == end and len(led[1]) == len(places)


def why_not(makers, tread):
    """Return why makers do not make a tread, None if they do."""
    check_makers(makers)
    check_tread(tread)
    moves = moves_within(makers, tread[0])
    return bar_to_row(tread, moves, routes_within(moves))


def needless(makers):
    """Return the numbers of the makers that the others make."""
    check_makers(makers)
    numbers = []
    for number, maker in enumerate(makers):
        if makes(makers[:number] + makers[number + 1:], maker):
            numbers.append(number)
    return numbers


def first_not_made(makers, treads):
    """Return the number of the first tread that the makers do not make, or None."""
    for number, tread in enumerate(treads):
        if not makes(makers, tread):
            return number
    return None


def same_makers(one, other):
    """Return which maker of two lists the other list does not make, or None."""
    check_makers(one)
    check_makers(other)
    for at, makers, others in ((0, one, other), (1, other, one)):
        number = first_not_made(others, makers)
        if number is not None:
            return (at, number)
    return None
