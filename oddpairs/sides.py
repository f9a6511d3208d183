"""Nets with two sides and their covers, and rings of odd length where there are no two sides."""

from oddpairs.errors import OddRing
from oddpairs.pairings import mates_in
from oddpairs.ways import most

# A trail leads from the least place of a part to a place, each place of it
# beside the next. All trails together make a tree: where two part, they stay
# apart. If the net has two sides, the place at the end of a trail is of side 0
# where the trail has an odd number of places, and of side 1 where it is even.


def trails_in(net):
    """Tell for each place a trail that leads to it."""
    trails = {}
    for first in range(net.size):
        if first not in trails:
            trails[first] = [first]
            lengthen(net, trails, first)
    return trails


def lengthen(net, trails, first):
    """Add trails to all the places that one comes to from the first one."""
    waiting = [first]
    while waiting:
        here = waiting.pop()
        for there in net.beside(here):
            if there not in trails:
                trails[there] = trails[here] + [there]
                waiting.append(there)


def side_at(trail):
    """Tell the side of the place at the end of the trail, if the net has two sides."""
    return (len(trail) - 1) % 2


def sides(net):
    """Tell for each place its side, 0 or 1, or None where the net has no two sides."""
    trails = trails_in(net)
    told = [side_at(trails[place]) for place in range(net.size)]
    for one, other in net.ties():
        if told[one] == told[other]:
            return None
    return told


def ring_of(trail, other_trail):
    """Tell the ring that is closed by a tie between the ends of two trails of one part."""
    shared = len([place for place in trail if place in other_trail])
    # The last place that they share belongs to the ring, but only once.
    return trail[shared - 1:] + other_trail[shared:][::-1]


def odd_ring(net):
    """Tell a ring of odd length, or None where the net has none."""
    trails = trails_in(net)
    for one, other in net.ties():
        if side_at(trails[one]) == side_at(trails[other]):
            return ring_of(trails[one], trails[other])
    return None


def reached_by_turns(net, told, mates):
    """Tell for each place whether one comes to it from a lone place of side 0.

    One goes to side 1 by any tie, and back to side 0 by pairs only. As the
    pairing is greatest, no place of side 1 that is reached is alone.
    """
    reached = [told[place] == 0 and mates[place] is None for place in range(net.size)]
    waiting = [place for place in range(net.size) if reached[place]]
    while waiting:
        here = waiting.pop()
        for there in net.beside(here):
            if not reached[there]:
                reached[there] = True
                reached[mates[there]] = True
                waiting.append(mates[there])
    return reached


def cover(net):
    """Tell, rising, a least cover; refuse with OddRing a net that has no two sides."""
    told = sides(net)
    if told is None:
        raise OddRing("the net has a ring of odd length")
    reached = reached_by_turns(net, told, mates_in(net, most(net)))
    # A tie from a reached place of side 0 leads to a reached one of side 1. So
    # each tie has a place that is told, and each place told has a pair of its own.
    return [place for place in range(net.size) if reached[place] == (told[place] == 1)]
