"""Promises 1, 4 and 5: pairings, lone places, and ways turned."""

import random
import unittest
from itertools import permutations

from helpers import (HUGE, NO_NUMBERS, all_ties, every_pairing, is_pairing, is_way, line, net_of, refusal,
                     small_nets)

from oddpairs.errors import BadPairs, BadWay
from oddpairs.nets import Net
from oddpairs.pairings import alone, checked, turned

# What is no pairing of the net of pair_net, whatever it is.
NO_PAIRINGS = [
    None, True, False, 0, 1, "", "0-1", (), ((0, 1),), {}, {(0, 1): True}, {(0, 1)}, b"",
    [None], [True], [0], [0, 1], ["01"], [b"01"], [[0, 1]], [{0, 1}], [{0: 1, 1: 2}], [()], [(0,)],
    [(0, 1, 2)], [(0, 1, None)], [((0, 1), (2, 3))], [[(0, 1)]],
    [(1, 0)], [(0, 1), (3, 2)], [(0, 0)], [(5, 5)],
    [(0, 2)], [(0, 5)], [(0, 1), (2, 4)],
    [(0, 1), (0, 1)], [(0, 1), (1, 2)], [(1, 2), (0, 1)], [(0, 1), (0, 3)], [(0, 3), (2, 3)],
    [(-1, 0)], [(-2, -1)], [(0, 6)], [(6, 7)], [(5, 40)], [(0, HUGE)], [(-HUGE, 0)],
    [(False, True)], [(0, True)], [(False, 1)], [(True, 2)], [(0.0, 1.0)], [(0, 1.0)], [(0.0, 1)],
    [(None, 1)], [(0, None)], [("0", "1")], [("0", 1)], [([0], 1)], [(0, [1])], [((0,), 1)], [(0, {})],
    [(0, 1), None], [(0, 1), [2, 3]], [(0, 1), (2, 3), (4, 5), (0, 1)],
]


def pair_net():
    """A ring of four, 0 1 2 3, with the tail 4 5 at its place 3."""
    return Net(6, [(0, 1), (1, 2), (2, 3), (0, 3), (3, 4), (4, 5)])


class CheckedTest(unittest.TestCase):
    def test_the_pairing_is_told_rising(self):
        net = pair_net()
        self.assertEqual(checked(net, [(4, 5), (0, 1), (2, 3)]), [(0, 1), (2, 3), (4, 5)])
        self.assertEqual(checked(net, [(4, 5), (1, 2)]), [(1, 2), (4, 5)])

    def test_it_rises_by_number_and_not_by_figures(self):
        net = Net(40, line(list(range(40))))
        self.assertEqual(checked(net, [(10, 11), (38, 39), (2, 3), (4, 5)]), [(2, 3), (4, 5), (10, 11), (38, 39)])

    def test_no_pairs(self):
        self.assertEqual(checked(pair_net(), []), [])
        self.assertEqual(checked(Net(1, []), []), [])
        self.assertEqual(checked(Net(40, all_ties(40)), []), [])

    def test_every_pairing_of_small_nets(self):
        chance = random.Random(5)
        for row in small_nets(range(1, 7), 8):
            net = net_of(row)
            for pairs in every_pairing(row[1]):
                mixed = list(pairs)
                chance.shuffle(mixed)
                self.assertEqual(checked(net, mixed), sorted(pairs))

    def test_every_list_of_ties_that_is_no_pairing(self):
        for size, ties in small_nets(range(2, 6), 8):
            net = Net(size, ties)
            known = [sorted(pairs) for pairs in every_pairing(ties)]
            for pairs in permutations(all_ties(size), 2):
                told = None if sorted(pairs) in known else BadPairs
                self.assertIs(refusal(checked, net, list(pairs)), told)

    def test_twenty_pairs(self):
        pairs = [(place, place + 1) for place in range(0, 40, 2)]
        self.assertEqual(checked(Net(40, all_ties(40)), pairs[::-1]), pairs)

    def test_what_is_no_pairing(self):
        for pairs in NO_PAIRINGS:
            with self.subTest(str(pairs)[:80] if HUGE not in flat(pairs) else "huge"):
                self.assertIs(refusal(checked, pair_net(), pairs), BadPairs)

    def test_a_pair_in_a_net_without_ties(self):
        self.assertIs(refusal(checked, Net(2, []), [(0, 1)]), BadPairs)
        self.assertIs(refusal(checked, Net(1, []), [(0, 1)]), BadPairs)

    def test_what_an_iterator_would_tell(self):
        self.assertIs(refusal(checked, pair_net(), iter([(0, 1)])), BadPairs)


def flat(pairs):
    """The numbers in a list of tuples, as far as there are any; their negatives, too."""
    if not isinstance(pairs, list):
        return []
    return [sign * thing for pair in pairs if isinstance(pair, tuple)
            for thing in pair if isinstance(thing, int) for sign in (1, -1)]


class AloneTest(unittest.TestCase):
    def test_lone_places_are_told_rising(self):
        net = pair_net()
        self.assertEqual(alone(net, [(3, 4), (0, 1)]), [2, 5])
        self.assertEqual(alone(net, [(1, 2)]), [0, 3, 4, 5])

    def test_no_pairs(self):
        self.assertEqual(alone(pair_net(), []), [0, 1, 2, 3, 4, 5])
        self.assertEqual(alone(Net(1, []), []), [0])
        self.assertEqual(alone(Net(40, all_ties(40)), []), list(range(40)))

    def test_no_place_alone(self):
        self.assertEqual(alone(pair_net(), [(4, 5), (0, 3), (1, 2)]), [])
        self.assertEqual(alone(Net(2, [(0, 1)]), [(0, 1)]), [])

    def test_every_pairing_of_small_nets(self):
        for row in small_nets(range(1, 7), 8):
            for pairs in every_pairing(row[1]):
                paired = [place for pair in pairs for place in pair]
                lone = [place for place in range(row[0]) if place not in paired]
                self.assertEqual(alone(net_of(row), pairs[::-1]), lone)

    def test_what_is_no_pairing(self):
        for pairs in NO_PAIRINGS:
            with self.subTest(str(pairs)[:80] if HUGE not in flat(pairs) else "huge"):
                self.assertIs(refusal(alone, pair_net(), pairs), BadPairs)


class TurnedTest(unittest.TestCase):
    def test_a_way_of_two_places(self):
        net = pair_net()
        self.assertEqual(turned(net, [], [0, 1]), [(0, 1)])
        self.assertEqual(turned(net, [], [1, 0]), [(0, 1)])
        self.assertEqual(turned(net, [(4, 5)], [1, 0]), [(0, 1), (4, 5)])
        self.assertEqual(turned(net, [(0, 1)], [4, 5]), [(0, 1), (4, 5)])
        self.assertEqual(turned(Net(2, [(0, 1)]), [], [1, 0]), [(0, 1)])

    def test_a_way_of_four_places(self):
        net = pair_net()
        self.assertEqual(turned(net, [(3, 4)], [2, 3, 4, 5]), [(2, 3), (4, 5)])
        self.assertEqual(turned(net, [(3, 4), (0, 1)], [5, 4, 3, 2]), [(0, 1), (2, 3), (4, 5)])

    def test_a_way_of_six_places(self):
        net = pair_net()
        self.assertEqual(turned(net, [(3, 4), (0, 1)], [2, 1, 0, 3, 4, 5]), [(0, 3), (1, 2), (4, 5)])

    def test_a_way_of_forty_places(self):
        net = Net(40, line(list(range(40))))
        pairs = [(place, place + 1) for place in range(1, 39, 2)]
        told = [(place, place + 1) for place in range(0, 40, 2)]
        self.assertEqual(turned(net, pairs, list(range(40))), told)
        self.assertEqual(turned(net, pairs[::-1], list(range(40))[::-1]), told)

    def test_every_list_of_places_of_small_nets(self):
        for size, ties in small_nets(range(2, 6), 5):
            net = Net(size, ties)
            for pairs in every_pairing(ties):
                for many in range(1, size + 1):
                    for way in permutations(range(size), many):
                        self.assert_turned(net, ties, pairs, list(way))

    def assert_turned(self, net, ties, pairs, way):
        if not is_way(net.size, ties, pairs, way):
            self.assertIs(refusal(turned, net, pairs, way), BadWay)
            return
        steps = {tuple(sorted(step)) for step in zip(way, way[1:])}
        told = turned(net, pairs, way)
        self.assertEqual(told, sorted(steps ^ set(pairs)))
        self.assertTrue(is_pairing(ties, told))
        self.assertEqual(len(told), len(pairs) + 1)

    def test_what_is_no_pairing(self):
        for pairs in NO_PAIRINGS:
            with self.subTest(str(pairs)[:80] if HUGE not in flat(pairs) else "huge"):
                self.assertIs(refusal(turned, pair_net(), pairs, [0, 1]), BadPairs)

    def test_bad_pairs_come_before_a_bad_way(self):
        for pairs in (None, [(1, 0)], [(0, 2)], [(0, 1), (1, 2)]):
            for way in (None, [], [0, 0], [9, 8], "way"):
                with self.subTest(pairs=pairs, way=way):
                    self.assertIs(refusal(turned, pair_net(), pairs, way), BadPairs)


class BadWayTest(unittest.TestCase):
    def assert_bad(self, pairs, way):
        self.assertIs(refusal(turned, pair_net(), pairs, way), BadWay)

    def test_no_list(self):
        for way in (None, True, False, 0, 1, "", "01", (), (0, 1), {}, {0: 1, 1: 0}, {0, 1}, b"\x00\x01", range(2)):
            with self.subTest(way=way):
                self.assert_bad([], way)

    def test_what_an_iterator_would_tell(self):
        self.assert_bad([], iter([0, 1]))

    def test_no_place_and_one_place(self):
        self.assert_bad([], [])
        for place in range(6):
            self.assert_bad([], [place])
        self.assert_bad([(0, 1), (2, 3)], [4])

    def test_what_is_no_place(self):
        for thing in [6, 40, -1, -6, HUGE, (0, 1), 1.0] + NO_NUMBERS:
            with self.subTest(str(type(thing))):
                self.assert_bad([], [0, thing])
                self.assert_bad([], [thing, 1])
                self.assert_bad([(3, 4)], [2, 3, thing, 5])

    def test_numbers_from_behind_are_no_places(self):
        # In a Python list -2 and -1 would be the places 4 and 5.
        self.assert_bad([], [-2, -1])
        self.assert_bad([(3, 4)], [2, 3, -2, -1])

    def test_a_place_twice(self):
        self.assert_bad([], [0, 0])
        self.assert_bad([], [0, 1, 0, 1])
        self.assert_bad([(0, 1)], [2, 1, 0, 1])

    def test_a_walk_that_goes_round_and_comes_to_a_place_twice(self):
        net = Net(6, [(0, 1), (1, 2), (2, 3), (1, 3), (0, 4), (4, 5)])
        self.assertIs(refusal(turned, net, [(0, 1), (2, 3)], [4, 0, 1, 2, 3, 1, 0, 4]), BadWay)
        self.assertIs(refusal(turned, net, [(2, 3)], [1, 2, 3, 1]), BadWay)

    def test_an_end_that_is_not_alone(self):
        self.assert_bad([(0, 1)], [1, 2])
        self.assert_bad([(0, 1)], [2, 1])
        self.assert_bad([(0, 1), (2, 3)], [1, 2])
        self.assert_bad([(0, 1)], [0, 1])

    def test_places_that_are_not_tied(self):
        self.assert_bad([], [0, 2])
        self.assert_bad([(3, 4)], [0, 3, 4, 1])
        self.assert_bad([(3, 4)], [1, 3, 4, 5])

    def test_steps_that_are_not_by_turns(self):
        self.assert_bad([], [0, 1, 2, 3])
        self.assert_bad([(1, 2)], [0, 1, 2, 3, 4])
        self.assert_bad([(1, 2)], [0, 1, 2, 3, 4, 5])
        self.assert_bad([(0, 1), (3, 4)], [2, 3, 0, 1])

    def test_an_odd_number_of_places(self):
        self.assert_bad([(1, 2)], [0, 1, 2])
        self.assert_bad([], [0, 1, 2])
        net = Net(5, [(0, 1), (1, 2), (2, 3), (3, 4)])
        self.assertIs(refusal(turned, net, [(1, 2)], [0, 1, 2, 3, 4]), BadWay)

    def test_a_greatest_pairing_has_no_way(self):
        for pairs in every_pairing(pair_net().ties()):
            if len(pairs) == 3:
                for many in range(1, 7):
                    for way in permutations(range(6), many):
                        self.assert_bad(pairs, list(way))


class NothingSharedTest(unittest.TestCase):
    """Promise 1: lists handed in stay as they were, and told lists are the caller's."""

    def test_what_is_handed_in_stays_as_it_was(self):
        net = pair_net()
        pairs, way = [(3, 4), (0, 1)], [5, 4, 3, 2]
        checked(net, pairs)
        alone(net, pairs)
        turned(net, pairs, way)
        self.assertEqual((pairs, way), ([(3, 4), (0, 1)], [5, 4, 3, 2]))
        self.assertEqual(net.ties(), pair_net().ties())

    def test_what_is_refused_stays_as_it_was(self):
        pairs, way = [(3, 4), (0, 1)], [5, 4, 3]
        self.assertIs(refusal(turned, pair_net(), pairs, way), BadWay)
        self.assertEqual((pairs, way), ([(3, 4), (0, 1)], [5, 4, 3]))

    def test_what_is_told_is_not_what_was_handed_in(self):
        net = pair_net()
        pairs = [(0, 1), (2, 3)]
        told = checked(net, pairs)
        self.assertIsNot(told, pairs)
        told.clear()
        self.assertEqual(pairs, [(0, 1), (2, 3)])
        empty = []
        self.assertIsNot(checked(net, empty), empty)

    def test_told_lists_may_be_changed(self):
        net = pair_net()
        pairs = [(0, 1)]
        for _ in range(2):
            for told in (checked(net, pairs), alone(net, pairs), turned(net, pairs, [2, 3]), checked(net, [])):
                told.append("mine")
        self.assertEqual(checked(net, []), [])
        self.assertEqual(checked(net, pairs), [(0, 1)])
        self.assertEqual(alone(net, pairs), [2, 3, 4, 5])
        self.assertEqual(turned(net, pairs, [2, 3]), [(0, 1), (2, 3)])

    def test_lists_handed_in_may_be_changed_afterwards(self):
        net = pair_net()
        pairs, way = [(0, 1)], [2, 3]
        told = [checked(net, pairs), alone(net, pairs), turned(net, pairs, way)]
        pairs.clear()
        way.append(4)
        self.assertEqual(told, [[(0, 1)], [2, 3, 4, 5], [(0, 1), (2, 3)]])


if __name__ == "__main__":
    unittest.main()
