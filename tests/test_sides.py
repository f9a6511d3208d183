"""Promises 9 and 10: two sides, rings of odd length, and covers."""

import random
import unittest
from itertools import combinations, product

from helpers import (all_ties, dense_nets, every_tie_list, larger_nets, line, most_by_trying, net_of,
                     odd_rings_in_a_row, petals, refusal, ring, rings_within_rings, shuffled, small_nets, two_sided)

from oddpairs.errors import OddRing
from oddpairs.nets import Net, parts
from oddpairs.sides import cover, odd_ring, sides
from oddpairs.ways import most


def sides_by_trying(size, ties):
    """By trying all: the sides with as many places of side 0 first as can be, or None."""
    for told in product((0, 1), repeat=size):
        if all(told[one] != told[other] for one, other in ties):
            if all(told[part[0]] == 0 for part in parts(Net(size, ties), [])):
                return list(told)
    return None


def least_cover(size, ties):
    """By trying all: of how many places the least covers are."""
    for many in range(size + 1):
        for places in combinations(range(size), many):
            if all(one in places or other in places for one, other in ties):
                return many
    return None


def two_sided_nets():
    """Nets with two sides, of up to 40 places: with few ties, and with all there can be."""
    chance = random.Random(64)
    every = [(size, two_sided(chance, size, part)) for size in range(1, 41) for part in (5, 10, 40, 97, 100)]
    for lesser in (1, 2, 7, 13, 19, 20, 39):
        every.append((40, [(one, other) for one in range(lesser) for other in range(lesser, 40)]))
    every += [(length, sorted(ring(list(range(length))))) for length in (4, 6, 38, 40)]
    every += [(length, line(list(range(length)))) for length in (1, 2, 3, 39, 40)] + [(40, [])]
    # A grid of five rows of eight places.
    grid = [(place, place + 8) for place in range(32)] + [(at, at + 1) for at in range(39) if at % 8 != 7]
    every += [(40, sorted(grid)), (40, shuffled(chance, 40, grid))]
    # A lone place of the lesser side, so that no side is a cover of its own.
    every += [(size, shuffled(chance, size, ties)) for size, ties in list(every)]
    return every


def odd_nets():
    """Nets with a ring of odd length, which stands in the last part only in some of them."""
    chance = random.Random(65)
    every = [odd_rings_in_a_row(3, 13), odd_rings_in_a_row(7, 5), petals(19), rings_within_rings()]
    every += [(length, sorted(ring(list(range(length))))) for length in (3, 5, 7, 39)]
    every += [(40, line(list(range(37))) + [(37, 38), (37, 39), (38, 39)]), (40, [(37, 38), (37, 39), (38, 39)])]
    every += [(size, all_ties(size)) for size in (3, 4, 40)]
    # A ring of even length with one tie across it that makes rings of odd length.
    every += [(40, sorted(ring(list(range(40))) + [(3, 3 + across)])) for across in (2, 10, 20, 36)]
    return every + [(size, shuffled(chance, size, ties)) for size, ties in list(every)]


class SidesTest(unittest.TestCase):
    def assert_sides(self, row, told):
        size, ties = row
        self.assertIs(type(told), list)
        self.assertEqual(len(told), size)
        self.assertTrue(all(type(side) is int and side in (0, 1) for side in told))
        self.assertTrue(all(told[one] != told[other] for one, other in ties), row)
        for part in parts(net_of(row), []):
            self.assertEqual(told[part[0]], 0)

    def assert_odd_ring(self, row, told):
        self.assertIs(type(told), list)
        self.assertEqual(len(told) % 2, 1)
        self.assertEqual(len(set(told)), len(told))
        self.assertTrue(all(type(place) is int for place in told))
        self.assertTrue(all(tie in row[1] for tie in ring(told)), (row, told))

    def assert_just_one(self, row):
        told, odd = sides(net_of(row)), odd_ring(net_of(row))
        self.assertEqual([told, odd].count(None), 1, row)
        if odd is None:
            self.assert_sides(row, told)
        else:
            self.assert_odd_ring(row, odd)

    def test_every_net_of_up_to_five_places(self):
        for size in range(1, 6):
            for ties in every_tie_list(size):
                self.assertEqual(sides(Net(size, ties)), sides_by_trying(size, ties))
                self.assert_just_one((size, ties))

    def test_nets_of_six_to_eight_places(self):
        for size, ties in small_nets((6, 7, 8), 40):
            self.assertEqual(sides(Net(size, ties)), sides_by_trying(size, ties))
            self.assert_just_one((size, ties))

    def test_nets_of_up_to_40_places(self):
        for row in larger_nets() + dense_nets() + two_sided_nets() + odd_nets():
            self.assert_just_one(row)

    def test_nets_with_two_sides(self):
        for row in two_sided_nets():
            self.assertIsNone(odd_ring(net_of(row)))
            self.assert_sides(row, sides(net_of(row)))

    def test_nets_with_a_ring_of_odd_length(self):
        for row in odd_nets():
            self.assertIsNone(sides(net_of(row)))
            self.assert_odd_ring(row, odd_ring(net_of(row)))

    def test_known_sides(self):
        self.assertEqual(sides(Net(1, [])), [0])
        self.assertEqual(sides(Net(4, [])), [0, 0, 0, 0])
        self.assertEqual(sides(Net(4, [(1, 3)])), [0, 0, 0, 1])
        self.assertEqual(sides(Net(4, [(0, 3), (1, 2)])), [0, 0, 1, 1])
        self.assertEqual(sides(Net(6, [(0, 5), (1, 5), (2, 4), (3, 4)])), [0, 0, 0, 0, 1, 1])
        self.assertEqual(sides(Net(5, [(0, 1), (1, 2), (2, 3), (3, 4)])), [0, 1, 0, 1, 0])
        self.assertIsNone(sides(Net(3, all_ties(3))))

    def test_known_rings(self):
        self.assertEqual(sorted(odd_ring(Net(3, all_ties(3)))), [0, 1, 2])
        self.assertEqual(sorted(odd_ring(Net(6, [(0, 1), (1, 2), (2, 3), (3, 4), (4, 5), (3, 5)]))), [3, 4, 5])
        self.assertEqual(sorted(odd_ring(Net(40, [(0, 1), (9, 20), (9, 39), (20, 39)]))), [9, 20, 39])
        self.assertEqual(sorted(odd_ring(Net(39, sorted(ring(list(range(39))))))), list(range(39)))
        self.assertIsNone(odd_ring(Net(4, ring([0, 1, 2, 3]))))
        self.assertIsNone(odd_ring(Net(1, [])))


class CoverTest(unittest.TestCase):
    def assert_cover(self, row):
        told = cover(net_of(row))
        self.assertIs(type(told), list)
        self.assertEqual(told, sorted(set(told)))
        self.assertTrue(all(type(place) is int and place in range(row[0]) for place in told))
        self.assertTrue(all(one in told or other in told for one, other in row[1]), row)
        self.assertEqual(len(told), len(most(net_of(row))), row)

    def assert_small(self, size, ties):
        if sides(Net(size, ties)) is None:
            self.assertIs(refusal(cover, Net(size, ties)), OddRing)
        else:
            self.assert_cover((size, ties))
            self.assertEqual(len(cover(Net(size, ties))), least_cover(size, ties))
            self.assertEqual(len(cover(Net(size, ties))), most_by_trying(ties))

    def test_every_net_of_up_to_five_places(self):
        for size in range(1, 6):
            for ties in every_tie_list(size):
                self.assert_small(size, ties)

    def test_nets_of_six_to_nine_places(self):
        chance = random.Random(66)
        for size in (6, 7, 8, 9):
            for _ in range(40):
                self.assert_small(size, two_sided(chance, size, 60))
        for size, ties in small_nets((6, 7, 8), 15):
            self.assert_small(size, ties)

    def test_nets_of_up_to_40_places(self):
        for row in two_sided_nets():
            self.assert_cover(row)

    def test_a_ring_of_odd_length_is_refused(self):
        for row in odd_nets():
            self.assertIs(refusal(cover, net_of(row)), OddRing)

    def test_each_net_is_covered_or_refused(self):
        for row in larger_nets() + dense_nets():
            if sides(net_of(row)) is None:
                self.assertIs(refusal(cover, net_of(row)), OddRing)
            else:
                self.assert_cover(row)

    def test_known_covers(self):
        self.assertEqual(cover(Net(1, [])), [])
        self.assertEqual(cover(Net(40, [])), [])
        self.assertEqual(cover(Net(3, [(0, 1), (1, 2)])), [1])
        self.assertEqual(cover(Net(5, [(0, 4), (1, 4), (2, 4)])), [4])
        self.assertEqual(cover(Net(6, [(0, 3), (0, 4), (0, 5), (1, 5), (2, 5)])), [0, 5])
        self.assertEqual(cover(Net(40, [(one, other) for one in range(13) for other in range(13, 40)])),
                         list(range(13)))


if __name__ == "__main__":
    unittest.main()
