"""Pairings of a net: told in order, their lone places, and ways turned in them."""

from oddpairs.errors import BadPairs, BadWay
from oddpairs.nets import is_place, is_tie


def checked(net, pairs):
    """Tell the pairing, rising; refuse with BadPairs what is none."""
    if not isinstance(pairs, list):
        raise BadPairs("the pairs are no list")
    paired = set()
    kept = []
    for pair in pairs:
        if not is_tie(pair, net.size):
            raise BadPairs("a pair is no tuple of two places, the lesser one first")
        one, other = pair
        if other not in net.beside(one):
            raise BadPairs("the places of a pair are not tied")
        if one in paired or other in paired:
            raise BadPairs("a place is in two pairs")
        paired.add(one)
        paired.add(other)
        kept.append((one, other))
    return sorted(kept)


def mates_in(net, pairs):
    """Tell for each place the one that it is paired with, None where it is alone."""
    mates = [None] * net.size
    for one, other in checked(net, pairs):
        mates[one] = other
        mates[other] = one
    return mates


def alone(net, pairs):
    """Tell, rising, the places that are in no pair."""
    mates = mates_in(net, pairs)
    return [place for place in range(net.size) if mates[place] is None]


def are_places(net, way):
    """Tell whether the way is a list of places, none of them twice."""
    if not isinstance(way, list):
        return False
    for place in way:
        if not is_place(place, net.size):
            return False
    return len(set(way)) == len(way)


def is_way(net, mates, way):
    """Tell whether the thing is a way for the pairing that has these mates."""
    # A way begins and ends with a step that is no pair, so its steps are odd
    # in number and its places even.
    if not are_places(net, way) or len(way) == 0 or len(way) % 2 == 1:
        return False
    if mates[way[0]] is not None or mates[way[-1]] is not None:
        return False
    for at in range(len(way) - 1):
        here = way[at]
        there = way[at + 1]
        if there not in net.beside(here):
            return False
        if (mates[here] == there) != (at % 2 == 1):
            return False
    return True


def turned(net, pairs, way):
    """Tell the pairing, rising, that comes of turning the way."""
    kept = checked(net, pairs)
    if not is_way(net, mates_in(net, kept), way):
        raise BadWay("this is no way for the pairing")
    steps = [(min(one, other), max(one, other)) for one, other in zip(way, way[1:])]
    untouched = [pair for pair in kept if pair not in steps]
    # The first step is no pair, and so is each second one after it.
    return sorted(untouched + steps[::2])
