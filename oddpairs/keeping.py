"""Nets that change tie by tie, each kept with a greatest pairing."""

from oddpairs.errors import NoPlace, NoTie, TieThere
from oddpairs.nets import Net, is_place
from oddpairs.pairings import turned
from oddpairs.ways import better


def tie_between(size, one, other):
    """Tell the tie between two places of a net of that size; refuse with NoPlace."""
    if not is_place(one, size) or not is_place(other, size):
        raise NoPlace("there is no such place")
    if one == other:
        raise NoPlace("both are one place")
    return (min(one, other), max(one, other))


class Kept:
    """A net whose ties are put and cut one by one, and a greatest pairing of it."""

    def __init__(self, size):
        self._net = Net(size, [])
        self._pairs = []

    def put(self, one, other):
        """Put a tie; tell by how many pairs the pairing has changed."""
        tie = tie_between(self._net.size, one, other)
        ties = self._net.ties()
        if tie in ties:
            raise TieThere("these places are tied")
        return self._turn_to(ties + [tie], self._pairs)

    def cut(self, one, other):
        """Cut a tie; tell by how many pairs the pairing has changed."""
        tie = tie_between(self._net.size, one, other)
        ties = self._net.ties()
        if tie not in ties:
            raise NoTie("these places are not tied")
        left = [pair for pair in self._pairs if pair != tie]
        return self._turn_to([row for row in ties if row != tie], left)

    def net(self):
        """Tell the net as it is now."""
        return Net(self._net.size, self._net.ties())

    def pairs(self):
        """Tell the pairing, rising."""
        return list(self._pairs)

    def _turn_to(self, ties, pairs):
        """Take these ties, and a greatest pairing made of these pairs; tell the change."""
        before = len(self._pairs)
        self._net = Net(self._net.size, ties)
        # One tie more or less changes a greatest pairing by one pair at most,
        # so these pairs lack no more than one, and one way is enough.
        way = better(self._net, pairs)
        if way is None:
            self._pairs = pairs
        else:
            self._pairs = turned(self._net, pairs, way)
        return len(self._pairs) - before
