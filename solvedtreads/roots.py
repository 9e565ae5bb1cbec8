"""Roots, the greatest treads whose power is a given one: promise [7]."""

from solvedtreads.errors import NoPower
from solvedtreads.products import is_whole, places_behind
from solvedtreads.treads import check_tread
from solvedtreads.words import follow

LEAST_EXPONENT = 2
MOST_EXPONENT = 9


def check_times(e):
    """Raise NoPower for what is no integer from 2 to 9."""
    if not is_whole(e, LEAST_EXPONENT, MOST_EXPONENT):
        raise NoPower("an integer from 2 to 9 is due")


def outer_letters(place):
    """Return how many first letters of a place are undone by its last ones."""
    outer = 0
    # No place but the empty one is undone as a whole, so this ends within it.
    while place and place[outer] == place[-1 - outer].swapcase():
        outer += 1
    return outer


def place_root(place, e):
    """Return the place that leads to a place when it is walked e times, or None."""
    # Repeated walks undo just their outer letters, between which the inner ones
    # stand e times.
    start = outer_letters(place)
    end = len(place) - start
    inner = place[start:end]
    part = inner[:len(inner) // e]
    if part * e != inner:
        return None
    return place[:start] + part + place[end:]


def stations_of(root, e):
    """Return to which places a root leads when it is walked from 0 to e - 1 times."""
    stations = [""]
    for _ in range(e - 1):
        stations.append(follow(stations[-1], root))
    return stations


def fitting_rows(places, stations):
    """Return where the places lead from all stations, one row for each that stays within."""
    present = set(places)
    columns = [places_behind(station, places) for station in stations]
    return [row for row in zip(*columns) if all([place in present for place in row])]


def first_missing(places, rows):
    """Return the first of the places that no row has, or None."""
    trodden = {place for row in rows for place in row}
    for place in places:
        if place not in trodden:
            return place
    return None


def root_or_bar(tread, e):
    """Return the greatest root of a tread and None, or None and what bars it."""
    places, end = tread
    root = place_root(end, e)
    if root is None:
        return (None, ("end",))
    stations = stations_of(root, e)
    for i in range(1, e):
        if stations[i] not in places:
            return (None, ("ring", i))
    rows = fitting_rows(places, stations)
    missing = first_missing(places, rows)
    if missing is not None:
        return (None, ("place", missing))
    # Each row begins with the place itself, as it is seen from the empty one.
    return ((tuple([row[0] for row in rows]), root), None)


def root_of(tread, e):
    """Return the tread with the most places whose power by e is a given one, or None."""
    check_tread(tread)
    check_times(e)
    return root_or_bar(tread, e)[0]


def shows_no_root(tread, e):
    """Return what bars a tread from having a root, None if it has one."""
    check_tread(tread)
    check_times(e)
    return root_or_bar(tread, e)[1]
