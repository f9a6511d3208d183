"""Nets of places that are tied two by two, and the parts that they fall into."""

from oddpairs.errors import BadNet, NoPlace

MOST_PLACES = 40


def is_number(thing):
    """Tell whether the thing is a whole number."""
    # True and False are ints to Python, but no numbers to the program.
    return isinstance(thing, int) and not isinstance(thing, bool)


def is_place(thing, size):
    """Tell whether the thing is a place of a net of that size."""
    return is_number(thing) and 0 <= thing < size


def is_tie(thing, size):
    """Tell whether the thing could be a tie in a net of that size."""
    if not isinstance(thing, tuple) or len(thing) != 2:
        return False
    one, other = thing
    return is_place(one, size) and is_place(other, size) and one < other


def rising_ties(size, ties):
    """Tell the ties, rising, as a list of their own; refuse with BadNet."""
    if not isinstance(ties, list):
        raise BadNet("the ties are no list")
    seen = set()
    for tie in ties:
        if not is_tie(tie, size):
            raise BadNet("a tie is no tuple of two places, the lesser one first")
        one, other = tie
        if (one, other) in seen:
            raise BadNet("a tie is told twice")
        seen.add((one, other))
    return sorted(seen)


def neighbours(size, ties):
    """Tell for each place the places beside it; the ties stand rising."""
    near = [[] for _ in range(size)]
    # As the ties rise, the lesser neighbours of a place come to it first.
    for one, other in ties:
        near[one].append(other)
        near[other].append(one)
    return near


class Net:
    """Some places and the ties between them."""

    def __init__(self, size, ties):
        if not is_number(size) or not 1 <= size <= MOST_PLACES:
            raise BadNet("the size is no whole number from 1 to 40")
        self.size = size
        self._ties = rising_ties(size, ties)
        self._near = neighbours(size, self._ties)

    def ties(self):
        """Tell the ties, rising."""
        return list(self._ties)

    def beside(self, place):
        """Tell the places that lie beside the place, rising."""
        if not is_place(place, self.size):
            raise NoPlace("there is no such place")
        return list(self._near[place])


def reached(net, first, closed):
    """Tell, rising, the places that one comes to from the first one, none of them closed."""
    seen = {first}
    waiting = [first]
    while waiting:
        here = waiting.pop()
        for place in net.beside(here):
            if not closed[place] and place not in seen:
                seen.add(place)
                waiting.append(place)
    return sorted(seen)


def parts(net, taken):
    """Tell the parts that are left where the places taken are taken away."""
    if not isinstance(taken, list):
        raise NoPlace("the places taken away are no list")
    closed = [False] * net.size
    for place in taken:
        if not is_place(place, net.size):
            raise NoPlace("what is taken away is no place")
        closed[place] = True
    found = []
    for first in range(net.size):
        if not closed[first]:
            part = reached(net, first, closed)
            for place in part:
                closed[place] = True
            found.append(part)
    return found
