"""What the greatest pairings of a net have in common: its fence, and what each place is in them."""

from oddpairs.errors import NoPlace
from oddpairs.nets import Net, is_place
from oddpairs.pairings import turned
from oddpairs.ways import better, most


def check_place(net, place):
    """Refuse with NoPlace what is no place of the net."""
    if not is_place(place, net.size):
        raise NoPlace("there is no such place")


def without(rows, place):
    """Tell those of the ties or pairs that do not have the place."""
    return [row for row in rows if place not in row]


def freed(net, pairs, place):
    """Tell a greatest pairing that leaves the place alone, or None; the pairs are a greatest one."""
    others = without(pairs, place)
    if len(others) == len(pairs):
        return others
    # A pairing that leaves the place alone is one of the net without the ties
    # of the place. There the others lack one pair at most, so one way is enough.
    rest = Net(net.size, without(net.ties(), place))
    way = better(rest, others)
    if way is None:
        return None
    return turned(rest, others, way)


def leaving(net, place):
    """Tell a greatest pairing that leaves the place alone, or None where there is none."""
    check_place(net, place)
    return freed(net, most(net), place)


def having(net, place):
    """Tell a greatest pairing that has the place in a pair, or None where there is none."""
    check_place(net, place)
    pairs = most(net)
    if len(without(pairs, place)) < len(pairs):
        return pairs
    near = net.beside(place)
    if len(near) == 0:
        return None
    # Two lone places that are tied could be one pair more, so what lies beside
    # a lone place is in a pair; it can be paired with the lone place instead.
    other = near[0]
    return sorted(without(pairs, other) + [(min(place, other), max(place, other))])


def sort_of(net, place):
    """Tell whether the place is loose, free or bound."""
    if having(net, place) is None:
        return "loose"
    if leaving(net, place) is None:
        return "bound"
    return "free"


def is_beside_one(net, place, marked):
    """Tell whether the place lies beside one that is marked."""
    return any([marked[other] for other in net.beside(place)])


def fence(net):
    """Tell, rising, the bound places that lie beside one that is not bound."""
    pairs = most(net)
    places = list(range(net.size))
    left = [freed(net, pairs, place) is not None for place in places]
    return [place for place in places if not left[place] and is_beside_one(net, place, left)]
