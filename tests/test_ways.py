"""Promises 1, 5 and 6: ways that make a pairing greater, and greatest pairings."""

import random
import unittest

from helpers import (all_ties, every_pairing, every_tie_list, is_pairing, is_way, larger_nets, line, most_by_rank,
                     most_by_trying, net_of, odd_rings_in_a_row, petals, refusal, ring, ring_with_tails,
                     rings_within_rings, shaped, shuffled, small_nets)
from test_pairings import NO_PAIRINGS, pair_net

from oddpairs.errors import BadPairs
from oddpairs.nets import Net
from oddpairs.pairings import turned
from oddpairs.ways import better, most


class SmallNetsTest(unittest.TestCase):
    """Against trying all pairings."""

    def assert_row(self, size, ties):
        net = Net(size, ties)
        many = most_by_trying(ties)
        told = most(net)
        self.assertTrue(is_pairing(ties, told))
        self.assertEqual(len(told), many)
        for pairs in every_pairing(ties):
            way = better(net, pairs)
            if len(pairs) == many:
                self.assertIsNone(way)
            else:
                self.assertTrue(is_way(size, ties, pairs, way))

    def test_every_net_of_up_to_five_places(self):
        for size in range(1, 6):
            for ties in every_tie_list(size):
                self.assert_row(size, ties)

    def test_nets_of_six_and_seven_places(self):
        for size, ties in small_nets((6, 7), 60):
            self.assert_row(size, ties)

    def test_all_ties_of_six_and_seven_places(self):
        self.assert_row(6, all_ties(6))
        self.assert_row(7, all_ties(7))

    def test_rings_with_tails(self):
        self.assert_row(*ring_with_tails(3, 1))
        self.assert_row(*ring_with_tails(3, 2))
        self.assert_row(*ring_with_tails(5, 1))
        self.assert_row(6, ring([0, 1, 2]) + [(2, 3)] + ring([3, 4, 5]))


class LargerNetsTest(unittest.TestCase):
    def test_most_has_as_many_pairs_as_the_rank_tells(self):
        for size, ties in larger_nets():
            told = most(Net(size, ties))
            self.assertTrue(is_pairing(ties, told))
            self.assertEqual(len(told), most_by_rank(size, ties), (size, ties))

    def test_turning_again_and_again_comes_to_as_many(self):
        chance = random.Random(99)
        for row in larger_nets():
            self.assert_climbs(row, [])
            self.assert_climbs(row, some_pairing(chance, row[1]))

    def assert_climbs(self, row, pairs):
        size, ties = row
        net = net_of(row)
        way = better(net, pairs)
        while way is not None:
            self.assertTrue(is_way(size, ties, pairs, way), (row, pairs, way))
            told = turned(net, pairs, way)
            self.assertTrue(is_pairing(ties, told))
            self.assertEqual(len(told), len(pairs) + 1)
            pairs = told
            way = better(net, pairs)
        self.assertEqual(len(pairs), len(most(net)))

    def test_better_finds_nothing_where_most_has_been(self):
        for row in larger_nets():
            net = net_of(row)
            self.assertIsNone(better(net, most(net)[::-1]))


def some_pairing(chance, ties):
    """A pairing taken by chance, to which no tie can be added."""
    mixed = list(ties)
    chance.shuffle(mixed)
    pairs, paired = [], set()
    for one, other in mixed:
        if one not in paired and other not in paired:
            pairs.append((one, other))
            paired.update((one, other))
    return pairs


class KnownNetsTest(unittest.TestCase):
    def assert_most(self, row, many):
        chance = random.Random(12)
        for _ in range(5):
            size, ties = row
            told = most(Net(size, ties))
            self.assertTrue(is_pairing(ties, told))
            self.assertEqual(len(told), many)
            row = (size, shuffled(chance, size, ties))

    def test_no_ties(self):
        for size in (1, 2, 3, 40):
            with self.subTest(size):
                self.assertEqual(most(Net(size, [])), [])
                self.assertIsNone(better(Net(size, []), []))

    def test_one_tie(self):
        net = Net(40, [(3, 39)])
        self.assertEqual(most(net), [(3, 39)])
        self.assertEqual(sorted(better(net, [])), [3, 39])
        self.assertIsNone(better(net, [(3, 39)]))

    def test_all_ties(self):
        for size in range(1, 41):
            self.assertEqual(len(most(Net(size, all_ties(size)))), size // 2)

    def test_rings(self):
        for length in (3, 4, 5, 6, 7, 39, 40):
            self.assert_most((length, sorted(ring(list(range(length))))), length // 2)

    def test_rings_with_tails(self):
        self.assert_most(ring_with_tails(3, 1), 3)
        self.assert_most(ring_with_tails(5, 1), 5)
        self.assert_most(ring_with_tails(7, 1), 7)
        self.assert_most(ring_with_tails(7, 2), 10)
        self.assert_most(ring_with_tails(5, 7), 20)

    def test_rings_in_a_row(self):
        self.assert_most(odd_rings_in_a_row(3, 2), 3)
        self.assert_most(odd_rings_in_a_row(3, 12), 18)
        self.assert_most(odd_rings_in_a_row(5, 8), 20)
        self.assert_most(odd_rings_in_a_row(7, 5), 17)

    def test_petals_and_rings_within_rings(self):
        self.assert_most(petals(19), 19)
        self.assert_most(rings_within_rings(), 8)

    def test_two_sides_of_unlike_size(self):
        self.assert_most((40, [(one, other) for one in range(13) for other in range(13, 40)]), 13)

    def test_a_way_that_must_go_round_a_ring(self):
        # 0 and 6 are alone; the only way goes by 0 1 2, then round the ring 2 3 4 5 .. to 6.
        ties = sorted(line([0, 1, 2]) + ring([2, 3, 4, 5, 7]) + [(3, 6)])
        pairs = [(1, 2), (3, 4), (5, 7)]
        self.assertEqual(better_either_way(Net(8, ties), pairs), [0, 1, 2, 7, 5, 4, 3, 6])

    def test_a_way_that_must_go_round_a_ring_within_a_ring(self):
        # The ring 2 3 4 is one place of the ring of it with 5 and 6; out of that goes the tie from 5 to 7.
        ties = sorted(line([0, 1, 2]) + ring([2, 3, 4]) + [(4, 5), (5, 6), (3, 6), (5, 7)])
        pairs = [(1, 2), (3, 4), (5, 6)]
        self.assertEqual(better_either_way(Net(8, ties), pairs), [0, 1, 2, 4, 3, 6, 5, 7])

    def test_a_tail_that_no_way_leaves(self):
        ties = sorted(line([0, 1, 2]) + ring([2, 3, 4]))
        self.assertIsNone(better(Net(5, ties), [(1, 2), (3, 4)]))
        self.assertIsNone(better(Net(5, ties), [(0, 1), (3, 4)]))
        self.assertIsNone(better(Net(5, ties), [(0, 1), (2, 3)]))

    def test_two_lone_places_at_one_neighbour(self):
        net = Net(3, [(0, 2), (1, 2)])
        self.assertIsNone(better(net, [(0, 2)]))
        self.assertIsNone(better(net, [(1, 2)]))
        self.assertIn(most(net), ([(0, 2)], [(1, 2)]))

    def test_a_way_in_a_far_part(self):
        net = Net(40, ring_ties_with_gap())
        way = better(net, [(0, 1)])
        self.assertEqual(sorted(way), [37, 38])


def ring_ties_with_gap():
    """A ring of three at the beginning and one tie near the end."""
    return [(0, 1), (0, 2), (1, 2), (37, 38)]


def better_either_way(net, pairs):
    """The only way, told from its lesser end."""
    way = better(net, pairs)
    return way if way[0] < way[-1] else way[::-1]


class RefusalTest(unittest.TestCase):
    def test_what_is_no_pairing(self):
        for number, pairs in enumerate(NO_PAIRINGS):
            with self.subTest(number=number):
                self.assertIs(refusal(better, pair_net(), pairs), BadPairs)


class NothingSharedTest(unittest.TestCase):
    """Promise 1: lists handed in stay as they were, told lists are the caller's, and answers stay."""

    def test_what_is_handed_in_stays_as_it_was(self):
        for size, ties in shaped():
            net = Net(size, ties)
            pairs = most(net)[::-1][1:]
            kept = list(pairs)
            better(net, pairs)
            self.assertEqual(pairs, kept)
            self.assertEqual(net.ties(), ties)

    def test_told_lists_are_new_ones_each_time(self):
        net = pair_net()
        self.assertIsNot(most(net), most(net))
        self.assertIsNot(better(net, []), better(net, []))
        self.assertIsNot(most(Net(2, [])), most(Net(2, [])))

    def test_told_lists_may_be_changed(self):
        net = pair_net()
        pairs, way = most(net), better(net, [])
        kept = list(pairs), list(way)
        pairs.clear()
        way.append(9)
        most(Net(2, [])).append("mine")
        self.assertEqual((most(net), better(net, [])), kept)
        self.assertEqual(most(Net(2, [])), [])

    def test_lists_handed_in_may_be_changed_afterwards(self):
        net = pair_net()
        pairs = [(3, 4)]
        way = better(net, pairs)
        kept = list(way)
        pairs.clear()
        self.assertEqual(way, kept)
        self.assertEqual(better(net, [(3, 4)]), kept)

    def test_the_same_question_has_the_same_answer(self):
        for row in shaped():
            self.assertEqual(most(net_of(row)), most(net_of(row)))
            self.assertEqual(better(net_of(row), []), better(net_of(row), []))


if __name__ == "__main__":
    unittest.main()
