"""Ways that make a pairing greater, and greatest pairings."""

from oddpairs.pairings import mates_in, turned

# A search goes out from one lone place, the root. A road leads from the root to
# a place, by turns over no pair and a pair, and ends with a pair; so one can go
# on from there by any tie that is no pair. A place that stands on roads only
# before its own pair has no road as yet. It gets one where a tie between two
# places that have roads closes a ring of odd length in which it stands: the
# road goes round that ring the other way. Without this, ways would be missed.


def roads_round(roads, one, other):
    """Tell roads that go to other, over the tie to one, and back along the road of one.

    They lead to the places on the road of one that have none yet. Where such a
    place is on the road of other, too, it lies before the ring and not in it.
    """
    found = {}
    for at, place in enumerate(roads[one]):
        if place not in roads and place not in roads[other]:
            back = roads[one][at:]
            found[place] = roads[other] + back[::-1]
    return found


def roads_by(roads, mates, here, there):
    """Tell the new roads that come of the tie between here, which has a road, and there."""
    if there in roads:
        found = roads_round(roads, here, there)
        found.update(roads_round(roads, there, here))
        return found
    mate = mates[there]
    if mate in roads:
        return {}
    return {mate: roads[here] + [there, mate]}


def way_from(net, mates, root):
    """Tell a way that begins at the root, a lone place, or None where none does."""
    roads = {root: [root]}
    waiting = [root]
    while waiting:
        here = waiting.pop()
        for there in net.beside(here):
            if there not in roads and mates[there] is None:
                return roads[here] + [there]
            found = roads_by(roads, mates, here, there)
            for place in found:
                roads[place] = found[place]
                waiting.append(place)
    return None


def better(net, pairs):
    """Tell a way for the pairing, or None where the pairing is greatest."""
    mates = mates_in(net, pairs)
    for root in range(net.size):
        if mates[root] is None:
            way = way_from(net, mates, root)
            if way is not None:
                return way
    return None


def most(net):
    """Tell a greatest pairing, rising."""
    pairs = []
    way = better(net, pairs)
    while way is not None:
        pairs = turned(net, pairs, way)
        way = better(net, pairs)
    return pairs
