"""Wishes, which narrow solutions and can be taken back, and trials of them: promise [13]."""

from solvedtreads.answers import check_answers
from solvedtreads.errors import NoPlace, NoThings, NoUndo, NoWishes, TooGreat

MOST_WISHES = 60
MOST_DEPTH = 5


class Stretch:
    """What stood at the beginning of a stretch, and the stretch around it, if there is one."""

    def __init__(self, standing, outer):
        self.standing = standing
        self.outer = outer


class Wishes:
    """Wishes about the solutions that an Answers stands for."""

    def __init__(self, answers):
        check_answers(answers)
        # An Answers of its own, as the one that is passed may change in place.
        self._all = answers & answers
        # For each wish that stands what it left, so that none has to be done again.
        self._standing = ()
        self._stretch = None

    def _last(self):
        """Return the own Answers for what is left, which nobody else may get."""
        return self._standing[-1] if self._standing else self._all

    def _add(self, left):
        """Add a wish by what it leaves."""
        if len(self._standing) >= MOST_WISHES:
            raise TooGreat("at most 60 wishes stand at a time")
        self._standing = self._standing + (left,)

    def must(self, place):
        """Wish that a place is trodden."""
        self._add(self._last().taking(place))

    def bar(self, place):
        """Wish that a place is not trodden."""
        self._add(self._last().barring(place))

    def undo(self):
        """Take the last wish that stands back."""
        if not self._standing:
            raise NoUndo("there is no wish to take back")
        self._standing = self._standing[:-1]

    def left(self):
        """Return a new Answers for the solutions that fit all wishes."""
        last = self._last()
        # The own one stays here; this one stands for the same and may be changed.
        return last & last

    def state(self):
        """Return "none", "one" or "many", by how many solutions are left."""
        last = self._last()
        if last.least() is None:
            return "none"
        return "one" if last.least() == last.most() else "many"

    def open_place(self):
        """Return the first place that just some of the solutions left tread, or None."""
        last = self._last()
        if last.least() is None:
            return None
        trodden = set(last.least()[0])
        for place in last.most()[0]:
            if place not in trodden:
                return place
        return None

    def __len__(self):
        return len(self._standing)

    def __enter__(self):
        self._stretch = Stretch(self._standing, self._stretch)
        return self

    def __exit__(self, kind, value, trace):
        self._standing = self._stretch.standing
        self._stretch = self._stretch.outer


def are_things(things, depth):
    """Return whether things are a list of strings and such lists, nested at most so deep."""
    if not isinstance(things, list) or depth == 0:
        return False
    for thing in things:
        if not isinstance(thing, str) and not are_things(thing, depth - 1):
            return False
    return True


def do_string(wishes, string):
    """Do what a string asks for."""
    if string == "<":
        wishes.undo()
    elif string.startswith("+"):
        wishes.must(string[1:])
    elif string.startswith("-"):
        wishes.bar(string[1:])
    else:
        raise NoPlace("a string is < or begins with + or -")


def states_after(wishes, things):
    """Do things in a stretch and return a list of the same form with the state after each."""
    states = []
    with wishes:
        for thing in things:
            if isinstance(thing, list):
                states.append(states_after(wishes, thing))
            else:
                do_string(wishes, thing)
                states.append(wishes.state())
    return states


def trial(wishes, things):
    """Return what state wishes come to by things, and leave them as they were."""
    if not isinstance(wishes, Wishes):
        raise NoWishes("a Wishes is due")
    if not are_things(things, MOST_DEPTH):
        raise NoThings("a list of strings and such lists, nested at most five deep, is due")
    return states_after(wishes, things)
