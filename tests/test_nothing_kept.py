"""Promise 1 for every name of the interface: arguments stay as they were, and lists told are new ones."""

import copy
import unittest

from helpers import all_ties, fenced_nets, line, net_of, refusal, ring, shaped

from oddpairs.errors import BadNet, BadPairs, BadWay, NoPlace, OddRing
from oddpairs.fences import fence, having, leaving, sort_of
from oddpairs.keeping import Kept
from oddpairs.nets import Net, parts
from oddpairs.notes import read, shown
from oddpairs.pairings import alone, checked, turned
from oddpairs.sides import cover, odd_ring, sides
from oddpairs.ways import better, most


def odd_net():
    """A ring of three with a tail, and a place by itself."""
    return Net(6, [(2, 3), (0, 1), (3, 4), (0, 2), (1, 2)])


def even_net():
    """A ring of four with a tail, and a place by itself."""
    return Net(7, [(2, 3), (0, 1), (3, 4), (0, 3), (1, 2), (4, 5)])


# Each row is a name and what it is handed; each of them tells something else than None.
TELLING = [
    (Net, 4, [(2, 3), (0, 1)]), (Net, 4, []),
    (parts, odd_net(), [2, 5, 2]), (parts, odd_net(), []),
    (checked, odd_net(), [(3, 4), (0, 1)]), (checked, odd_net(), [(0, 1), (3, 4)]), (checked, odd_net(), []),
    (alone, odd_net(), [(3, 4), (0, 1)]), (alone, odd_net(), []),
    (turned, odd_net(), [(2, 3)], [4, 3, 2, 0]), (turned, odd_net(), [], [1, 0]),
    (better, odd_net(), [(2, 3)]), (better, odd_net(), []),
    (most, odd_net()), (most, Net(3, [])), (most, even_net()),
    (fence, odd_net()), (fence, Net(3, [])), (fence, Net(3, [(0, 1), (1, 2)])),
    (leaving, odd_net(), 5), (leaving, Net(3, []), 1), (leaving, Net(3, [(0, 1), (1, 2)]), 0),
    (having, odd_net(), 3), (having, Net(3, [(0, 1), (1, 2)]), 0), (having, Net(3, [(0, 1), (1, 2)]), 2),
    (sort_of, odd_net(), 5), (sort_of, odd_net(), 0),
    (sides, even_net()), (sides, Net(3, [])),
    (odd_ring, odd_net()), (odd_ring, Net(3, all_ties(3))),
    (cover, even_net()), (cover, Net(3, [])),
    (shown, odd_net()), (read, "4: 0-1 2-3"), (Kept, 4),
]

REFUSED = [
    (BadNet, Net, 4, [(2, 3), (0, 1), (1, 0)]), (BadNet, Net, True, [(0, 1)]), (BadNet, Kept, True),
    (NoPlace, parts, odd_net(), [3, 6]), (NoPlace, parts, odd_net(), [True]),
    (BadPairs, checked, odd_net(), [(3, 4), (2, 3)]), (BadPairs, checked, odd_net(), [(False, True)]),
    (BadPairs, alone, odd_net(), [(3, 4), (2, 3)]), (BadPairs, better, odd_net(), [(3, 4), (2, 3)]),
    (BadPairs, turned, odd_net(), [(3, 4), (2, 3)], [0, 1]), (BadWay, turned, odd_net(), [(3, 4)], [0, 1, 2]),
    (BadWay, turned, odd_net(), [], [False, True]),
    (NoPlace, leaving, odd_net(), True), (NoPlace, having, odd_net(), False), (NoPlace, sort_of, odd_net(), True),
    (OddRing, cover, odd_net()), (BadNet, read, "4: 1-0"), (BadNet, read, True),
]


def plain(thing):
    """The same as plain values, to be compared: all that a net or a Kept tells, and copies of the rest."""
    if isinstance(thing, Kept):
        return plain(thing.net()), plain(thing.pairs())
    if isinstance(thing, Net):
        return thing.size, thing.ties(), [thing.beside(place) for place in range(thing.size)]
    if isinstance(thing, tuple):
        return tuple(plain(part) for part in thing)
    if isinstance(thing, list):
        return [plain(part) for part in thing]
    return thing


def lists_in(thing):
    """The list that is told, and those within it."""
    if not isinstance(thing, list):
        return []
    return [thing] + [row for part in thing for row in lists_in(part)]


def lists_kept(thing):
    """The lists that an object has among its attributes, and those within them."""
    if not hasattr(thing, "__dict__"):
        return lists_in(thing)
    return [row for worth in vars(thing).values() for row in lists_kept(worth)]


class EveryNameTest(unittest.TestCase):
    def assert_telling(self, call, *given):
        before = plain(given)
        told = call(*given)
        answer = plain(told)
        self.assertIsNotNone(answer)
        self.assertEqual(plain(given), before)
        again = call(*given)
        self.assertEqual(plain(again), answer)
        for one in lists_in(told):
            others = lists_in(again) + [row for thing in given for row in lists_kept(thing)]
            self.assertFalse(any(one is other for other in others))
            one.reverse()
            one.append("mine")
        self.assertEqual(plain(given), before)
        self.assertEqual(plain(call(*given)), answer)

    def test_arguments_stay_and_lists_are_new(self):
        for call, *given in TELLING:
            with self.subTest(call.__name__, given=plain(given)):
                self.assert_telling(call, *given)

    def test_on_shaped_nets(self):
        rows = [row for row in shaped() if len(row[1]) < 60] + [row for row, _, _ in fenced_nets()[:4]]
        for row in rows:
            net = net_of(row)
            pairs = most(net)[::-1]
            for call in (most, fence, shown, cover if sides(net) else odd_ring):
                self.assert_telling(call, net)
            for call in (checked, alone):
                self.assert_telling(call, net, pairs)
            if pairs:
                self.assert_telling(better, net, pairs[1:])
                self.assert_telling(turned, net, pairs[1:], better(net, pairs[1:]))
                self.assert_telling(having, net, pairs[0][0])

    def test_what_is_refused_stays_as_it_was(self):
        for error, call, *given in REFUSED:
            with self.subTest(call.__name__, given=plain(given)):
                before = plain(given)
                self.assertIs(refusal(call, *given), error)
                self.assertEqual(plain(given), before)

    def test_what_was_told_stays_where_arguments_change(self):
        for call, *given in TELLING:
            given = [copy.deepcopy(thing) for thing in given]
            told = call(*given)
            answer = plain(told)
            for thing in given:
                if isinstance(thing, list):
                    thing.clear()
                    thing.append("mine")
            self.assertEqual(plain(told), answer)

    def test_methods_tell_new_lists(self):
        net = odd_net()
        kept = Kept(40)
        for tie in ring(list(range(5))) + line([4, 5, 6]):
            kept.put(*tie)
        for call, given in ((net.ties, ()), (net.beside, (2,)), (net.beside, (5,)), (kept.pairs, ()),
                            (Kept(1).pairs, ()), (kept.net().ties, ()), (kept.net().beside, (4,))):
            answer = plain(call(*given))
            told = call(*given)
            self.assertFalse(any(told is row for row in lists_kept(net) + lists_kept(kept) + [call(*given)]))
            told.append("mine")
            self.assertEqual(plain(call(*given)), answer)

    def test_a_net_told_by_a_kept_is_not_the_one_that_is_kept(self):
        kept = Kept(3)
        kept.put(0, 1)
        told = kept.net()
        self.assertFalse(any(one is other for one in lists_kept(told) for other in lists_kept(kept)))


if __name__ == "__main__":
    unittest.main()
