"""Promises 6, 7 and 8: the fence of a net, and what each place is in the greatest pairings."""

import random
import unittest
from itertools import combinations

from helpers import (all_ties, dense_nets, every_pairing, every_tie_list, fenced_nets, greatest_by_trying,
                     is_pairing, larger_nets, line, most_by_rank, net_of, no_places, odd_rings_in_a_row, places_in,
                     refusal, ring, ring_with_tails, shaped, small_nets)

from oddpairs.errors import NoPlace
from oddpairs.fences import fence, having, leaving, sort_of
from oddpairs.nets import Net, parts
from oddpairs.pairings import alone
from oddpairs.ways import most


def left_alone(size, ties):
    """By trying all: the places that some greatest pairing leaves alone."""
    every = greatest_by_trying(ties)
    return [place for place in range(size) if any(place not in places_in(pairs) for pairs in every)]


def fence_around(ties, size, left):
    """The places that are not left alone but lie beside one that is."""
    return [place for place in range(size) if place not in left
            and any(place in tie and sum(tie) - place in left for tie in ties)]


def odd_parts(net, taken):
    return [part for part in parts(net, taken) if len(part) % 2 == 1]


def large():
    """Nets of up to 40 places, with few ties and with nearly all."""
    return larger_nets() + dense_nets() + [row for row, _, _ in fenced_nets()]


class SmallNetsTest(unittest.TestCase):
    """Against trying all pairings one by one."""

    def assert_row(self, size, ties):
        net = Net(size, ties)
        every = greatest_by_trying(ties)
        left = left_alone(size, ties)
        self.assertEqual(fence(net), fence_around(ties, size, left), (size, ties))
        for place in range(size):
            has = [pairs for pairs in every if place in places_in(pairs)]
            leaves = [pairs for pairs in every if place not in places_in(pairs)]
            self.assert_one_of(leaving(net, place), leaves)
            self.assert_one_of(having(net, place), has)
            sort = "bound" if not leaves else "free" if has else "loose"
            self.assertEqual(sort_of(net, place), sort)
            self.assertEqual(sort == "loose", all(place not in tie for tie in ties))

    def assert_one_of(self, told, every):
        if every:
            self.assertIn(told, every)
        else:
            self.assertIsNone(told)

    def test_every_net_of_up_to_five_places(self):
        for size in range(1, 6):
            for ties in every_tie_list(size):
                self.assert_row(size, ties)

    def test_nets_of_six_to_eight_places(self):
        for size, ties in small_nets((6, 7, 8), 50):
            self.assert_row(size, ties)

    def test_rings_of_odd_length(self):
        for row in (ring_with_tails(3, 1), ring_with_tails(3, 2), odd_rings_in_a_row(3, 2), odd_rings_in_a_row(3, 3),
                    (7, sorted(ring(list(range(7))))), (8, sorted(ring([1, 2, 3]) + ring([5, 6, 7]) + [(3, 5)])),
                    (7, sorted(ring([0, 1, 2]) + [(2, 3)] + ring([3, 4, 5]) + [(3, 6)]))):
            self.assert_row(*row)


class PlacesTakenAwayTest(unittest.TestCase):
    """Promise 7 as it stands: places taken away, odd parts, and places left alone."""

    def test_no_places_taken_away_leave_more_odd_parts_than_the_pairing_bears(self):
        for size, ties in small_nets(range(1, 8), 5):
            net = Net(size, ties)
            told = fence(net)
            least = size - 2 * len(greatest_by_trying(ties)[0])
            for many in range(size + 1):
                for taken in combinations(range(size), many):
                    self.assertLessEqual(len(odd_parts(net, list(taken))) - many, least)
            for pairs in every_pairing(ties):
                self.assertGreaterEqual(len(alone(net, pairs)), len(odd_parts(net, told)) - len(told))

    def test_the_fence_leaves_just_as_many(self):
        for row in large() + small_nets(range(1, 10), 20):
            net = net_of(row)
            told = fence(net)
            self.assertEqual(told, sorted(set(told)))
            self.assertEqual(len(odd_parts(net, told)) - len(told), len(alone(net, most(net))), row)


class LargerNetsTest(unittest.TestCase):
    def assert_places(self, row):
        """Check what each place is told to be, against each other and against the fence."""
        net = net_of(row)
        many = len(most(net))
        left = []
        for place in range(net.size):
            leaves, has = leaving(net, place), having(net, place)
            self.assert_told(row, many, place, leaves, False)
            self.assert_told(row, many, place, has, True)
            self.assertEqual(has is None, net.beside(place) == [])
            sort = "bound" if leaves is None else "loose" if has is None else "free"
            self.assertEqual(sort_of(net, place), sort, (row, place))
            if leaves is not None:
                left.append(place)
        self.assertEqual(fence(net), fence_around(row[1], row[0], left), row)

    def assert_told(self, row, many, place, told, within):
        if told is not None:
            self.assertTrue(is_pairing(row[1], told), (row, place))
            self.assertEqual(len(told), many)
            self.assertEqual(place in places_in(told), within)

    def test_nets_of_few_and_of_many_ties(self):
        for row in larger_nets()[::5] + dense_nets()[::3]:
            self.assert_places(row)

    def test_shaped_nets(self):
        for row in shaped():
            if len(row[1]) < 100:
                self.assert_places(row)

    def test_nets_with_known_fences(self):
        for row, _, _ in fenced_nets():
            self.assert_places(row)

    def test_by_rank_a_net_without_a_bound_place_has_a_pair_less(self):
        chance = random.Random(21)
        for row in chance.sample(large(), 60):
            size, ties = row
            many = most_by_rank(size, ties)
            for place in chance.sample(range(size), min(size, 4)):
                rest = most_by_rank(size, [tie for tie in ties if place not in tie])
                self.assertEqual(leaving(net_of(row), place) is None, rest < many, (row, place))


class KnownNetsTest(unittest.TestCase):
    def sorts(self, size, ties):
        return [sort_of(Net(size, ties), place) for place in range(size)]

    def test_known_fences(self):
        for row, told, many in fenced_nets():
            net = net_of(row)
            self.assertEqual(fence(net), told)
            self.assertEqual(len(alone(net, most(net))), many)

    def test_no_ties(self):
        for size in (1, 2, 40):
            self.assertEqual(fence(Net(size, [])), [])
            self.assertEqual(self.sorts(size, []), ["loose"] * size)
            self.assertEqual(leaving(Net(size, []), 0), [])
            self.assertIsNone(having(Net(size, []), size - 1))

    def test_one_tie(self):
        self.assertEqual(fence(Net(2, [(0, 1)])), [])
        self.assertEqual(self.sorts(3, [(0, 2)]), ["bound", "loose", "bound"])
        self.assertIsNone(leaving(Net(2, [(0, 1)]), 0))
        self.assertEqual(having(Net(2, [(0, 1)]), 1), [(0, 1)])

    def test_lines(self):
        self.assertEqual(self.sorts(3, line([0, 1, 2])), ["free", "bound", "free"])
        self.assertEqual(fence(Net(3, line([0, 1, 2]))), [1])
        self.assertEqual(fence(Net(39, line(list(range(39))))), list(range(1, 39, 2)))
        self.assertEqual(fence(Net(40, line(list(range(40))))), [])
        self.assertEqual(leaving(Net(3, line([0, 1, 2])), 0), [(1, 2)])
        self.assertIsNone(leaving(Net(3, line([0, 1, 2])), 1))
        self.assertEqual(having(Net(3, line([0, 1, 2])), 0), [(0, 1)])

    def test_rings(self):
        for length in (3, 5, 39):
            ties = sorted(ring(list(range(length))))
            self.assertEqual(fence(Net(length, ties)), [])
            self.assertEqual(self.sorts(length, ties), ["free"] * length)
        for length in (4, 6, 40):
            ties = sorted(ring(list(range(length))))
            self.assertEqual(fence(Net(length, ties)), [])
            self.assertEqual(self.sorts(length, ties), ["bound"] * length)

    def test_all_ties(self):
        for size in (2, 3, 39, 40):
            self.assertEqual(fence(Net(size, all_ties(size))), [])
            sort = "free" if size % 2 else "bound"
            self.assertEqual(self.sorts(size, all_ties(size)), [sort] * size)

    def test_a_star(self):
        ties = [(20, other) for other in range(21, 40)]
        ties = sorted(ties + [(other, 20) for other in range(20)])
        self.assertEqual(fence(Net(40, ties)), [20])
        self.assertEqual(self.sorts(40, ties), ["free"] * 20 + ["bound"] + ["free"] * 19)
        self.assertEqual(having(Net(40, ties), 3), [(3, 20)])
        self.assertEqual(having(Net(40, ties), 31), [(20, 31)])

    def test_a_bound_place_beside_the_fence_is_not_of_it(self):
        # 0 and 2 can be alone; 3 and 4 are a pair in each greatest pairing.
        ties = [(0, 1), (1, 2), (1, 3), (3, 4)]
        self.assertEqual(fence(Net(5, ties)), [1])
        self.assertEqual(self.sorts(5, ties), ["free", "bound", "free", "bound", "bound"])

    def test_a_ring_within_which_each_place_can_be_alone(self):
        ties = sorted(ring([0, 1, 2]) + line([2, 3, 4]))
        self.assertEqual(self.sorts(5, ties), ["free", "free", "free", "bound", "free"])
        self.assertEqual(fence(Net(5, ties)), [3])


class RefusalTest(unittest.TestCase):
    def test_what_is_no_place(self):
        net = Net(4, [(0, 1), (1, 2)])
        for thing in no_places(4):
            for call in (leaving, having, sort_of):
                with self.subTest(str(type(thing)), call=call.__name__):
                    self.assertIs(refusal(call, net, thing), NoPlace)

    def test_the_last_place_of_the_largest_net(self):
        net = Net(40, [(0, 39)])
        self.assertEqual(sort_of(net, 39), "bound")
        for call in (leaving, having, sort_of):
            self.assertIs(refusal(call, net, 40), NoPlace)
            self.assertIs(refusal(call, Net(1, []), 1), NoPlace)
            self.assertIsNone(refusal(call, Net(1, []), 0))


if __name__ == "__main__":
    unittest.main()
