"""Promises 1, 2 and 3: nets, their ties, and the parts that they fall into."""

import copy
import random
import unittest

from helpers import HUGE, NO_NUMBERS, NO_SIZES, all_ties, larger_nets, net_of, refusal, small_nets

from oddpairs.errors import BadNet, NoPlace
from oddpairs.nets import Net, parts


class NetTest(unittest.TestCase):
    def test_size_and_ties(self):
        net = Net(5, [(2, 4), (0, 3), (0, 1), (2, 3)])
        self.assertEqual(net.size, 5)
        self.assertIs(type(net.size), int)
        self.assertEqual(net.ties(), [(0, 1), (0, 3), (2, 3), (2, 4)])

    def test_ties_rise_by_number_and_not_by_figures(self):
        net = Net(12, [(2, 10), (10, 11), (2, 9), (1, 10), (1, 2)])
        self.assertEqual(net.ties(), [(1, 2), (1, 10), (2, 9), (2, 10), (10, 11)])
        self.assertEqual(net.beside(10), [1, 2, 11])

    def test_beside(self):
        net = Net(5, [(2, 4), (0, 3), (0, 1), (2, 3)])
        self.assertEqual([net.beside(place) for place in range(5)], [[1, 3], [0], [3, 4], [0, 2], [2]])

    def test_a_place_without_ties_has_none_beside_it(self):
        self.assertEqual(Net(3, [(0, 2)]).beside(1), [])

    def test_sizes_from_1_to_40(self):
        for size in range(1, 41):
            with self.subTest(size):
                net = Net(size, [])
                self.assertEqual((net.size, net.ties()), (size, []))
                self.assertEqual([net.beside(place) for place in range(size)], [[]] * size)

    def test_all_ties(self):
        for size in (2, 3, 7, 40):
            with self.subTest(size):
                net = Net(size, all_ties(size)[::-1])
                self.assertEqual(net.ties(), all_ties(size))
                for place in range(size):
                    self.assertEqual(net.beside(place), [other for other in range(size) if other != place])

    def test_any_order_of_ties_gives_the_same_net(self):
        chance = random.Random(3)
        for size, ties in larger_nets():
            mixed = list(ties)
            chance.shuffle(mixed)
            net = Net(size, mixed)
            self.assertEqual(net.ties(), ties)
            for place in range(size):
                near = [sum(tie) - place for tie in ties if place in tie]
                self.assertEqual(net.beside(place), sorted(near))

    def test_what_is_told_is_of_the_promised_kinds(self):
        net = Net(4, [(1, 3), (0, 1)])
        self.assertIs(type(net.ties()), list)
        self.assertIs(type(net.ties()[0]), tuple)
        self.assertIs(type(net.beside(1)), list)


class BadNetTest(unittest.TestCase):
    def assert_bad(self, size, ties):
        self.assertIs(refusal(Net, size, ties), BadNet)

    def test_sizes_that_are_none(self):
        for size in NO_SIZES:
            with self.subTest(str(type(size))):
                self.assert_bad(size, [])

    def test_a_size_that_is_none_with_ties(self):
        self.assert_bad(True, [(0, 1)])
        self.assert_bad(41, [(0, 1)])

    def test_ties_that_are_no_list(self):
        for ties in (None, True, False, 0, 1, "", "0-1", (), ((0, 1),), {}, {(0, 1): True}, {(0, 1)}, b"", range(0)):
            with self.subTest(ties=ties):
                self.assert_bad(4, ties)

    def test_ties_that_an_iterator_would_tell(self):
        self.assert_bad(4, iter([(0, 1)]))
        self.assert_bad(4, zip([0], [1]))

    def test_a_tie_that_is_no_tuple_of_two(self):
        for tie in (None, True, 0, 1, "01", b"01", [0, 1], {0, 1}, {0: 1, 1: 2}, (), (0,), (0, 1, 2), (0, 1, None),
                    ((0, 1),), ((0, 1), (2, 3))):
            with self.subTest(tie=tie):
                self.assert_bad(4, [tie])
                self.assert_bad(4, [(0, 1), tie])

    def test_a_tie_turned_round(self):
        self.assert_bad(4, [(1, 0)])
        self.assert_bad(4, [(0, 1), (3, 2)])

    def test_a_place_beside_itself(self):
        for place in range(4):
            self.assert_bad(4, [(place, place)])

    def test_a_tie_told_twice(self):
        self.assert_bad(4, [(0, 1), (0, 1)])
        self.assert_bad(4, [(2, 3), (0, 1), (1, 2), (2, 3)])

    def test_a_tie_told_both_ways_round(self):
        self.assert_bad(4, [(0, 1), (1, 0)])

    def test_a_tie_out_of_the_net(self):
        self.assert_bad(4, [(0, 4)])
        self.assert_bad(4, [(4, 5)])
        self.assert_bad(4, [(-1, 0)])
        self.assert_bad(4, [(-2, -1)])
        self.assert_bad(1, [(0, 1)])
        self.assert_bad(40, [(0, 40)])
        self.assert_bad(4, [(0, HUGE)])
        self.assert_bad(4, [(-HUGE, 0)])

    def test_a_tie_of_what_is_no_number(self):
        for thing in NO_NUMBERS:
            with self.subTest(thing=thing):
                self.assert_bad(4, [(thing, 3)])
                self.assert_bad(4, [(0, thing)])
                self.assert_bad(4, [(thing, thing)])


class NoPlaceTest(unittest.TestCase):
    def test_beside_what_is_no_place(self):
        net = Net(4, [(0, 1), (2, 3)])
        for thing in [4, 5, 40, 41, -1, -4, HUGE, -HUGE, (0, 1), [], 3.0] + NO_NUMBERS:
            with self.subTest(str(type(thing))):
                self.assertIs(refusal(net.beside, thing), NoPlace)

    def test_the_last_place_of_the_largest_net(self):
        net = Net(40, [(0, 39)])
        self.assertEqual(net.beside(39), [0])
        self.assertIs(refusal(net.beside, 40), NoPlace)


class PartsTest(unittest.TestCase):
    def test_nothing_taken(self):
        net = Net(7, [(4, 6), (0, 5), (1, 4), (2, 5)])
        self.assertEqual(parts(net, []), [[0, 2, 5], [1, 4, 6], [3]])

    def test_a_part_that_comes_together_by_a_late_place(self):
        net = Net(6, [(0, 5), (1, 5), (2, 4), (3, 4)])
        self.assertEqual(parts(net, []), [[0, 1, 5], [2, 3, 4]])

    def test_some_taken_in_any_order_and_twice(self):
        net = Net(7, [(0, 1), (1, 2), (2, 3), (3, 4), (4, 5), (5, 6), (0, 6)])
        for taken in ([1, 4], [4, 1], [4, 1, 4], [1, 1, 4, 4, 1]):
            with self.subTest(taken=taken):
                self.assertEqual(parts(net, taken), [[0, 5, 6], [2, 3]])

    def test_all_taken(self):
        for size in (1, 3, 40):
            with self.subTest(size):
                net = Net(size, all_ties(size))
                self.assertEqual(parts(net, list(range(size))), [])
                self.assertEqual(parts(net, list(range(size))[::-1] * 2), [])

    def test_no_ties(self):
        self.assertEqual(parts(Net(1, []), []), [[0]])
        self.assertEqual(parts(Net(4, []), [2]), [[0], [1], [3]])
        self.assertEqual(parts(Net(40, []), []), [[place] for place in range(40)])

    def test_all_ties(self):
        self.assertEqual(parts(Net(40, all_ties(40)), []), [list(range(40))])
        self.assertEqual(parts(Net(40, all_ties(40)), [0, 39]), [list(range(1, 39))])

    def test_against_joining_places_tie_by_tie(self):
        chance = random.Random(8)
        for row in larger_nets() + small_nets(range(1, 8), 20):
            size, ties = row
            for _ in range(3):
                taken = [chance.randrange(size) for _ in range(chance.randrange(size + 1))]
                self.assertEqual(parts(net_of(row), taken), joined(size, ties, taken))

    def test_what_is_no_place(self):
        net = Net(4, [(0, 1), (2, 3)])
        for thing in [4, 40, -1, -4, HUGE, (0, 1), [], 3.0] + NO_NUMBERS:
            with self.subTest(str(type(thing))):
                self.assertIs(refusal(parts, net, [thing]), NoPlace)
                self.assertIs(refusal(parts, net, [0, 1, thing]), NoPlace)
                self.assertIs(refusal(parts, net, [thing, 0]), NoPlace)

    def test_what_is_no_list_of_places(self):
        net = Net(4, [(0, 1), (2, 3)])
        for taken in (None, True, 0, 3, "", "01", (), (0, 1), {}, {0: True}, b"\x00", range(2)):
            with self.subTest(taken=taken):
                self.assertIs(refusal(parts, net, taken), NoPlace)


def joined(size, ties, taken):
    """The parts by another way: each place its own part, then joined by each tie."""
    part_of = {place: {place} for place in range(size) if place not in taken}
    for one, other in ties:
        if one in part_of and other in part_of:
            both = part_of[one] | part_of[other]
            for place in both:
                part_of[place] = both
    return sorted(sorted(part) for part in {min(part): part for part in part_of.values()}.values())


class NothingSharedTest(unittest.TestCase):
    """Promise 1: lists handed in stay as they were, and told lists are the caller's."""

    def setUp(self):
        self.given = [(2, 3), (0, 1), (1, 2), (0, 2)]
        self.net = Net(5, self.given)

    def answers(self):
        near = [self.net.beside(place) for place in range(5)]
        return copy.deepcopy((self.net.size, self.net.ties(), near, parts(self.net, []), parts(self.net, [2])))

    def test_what_is_handed_in_stays_as_it_was(self):
        self.assertEqual(self.given, [(2, 3), (0, 1), (1, 2), (0, 2)])
        taken = [3, 1, 3, 0]
        parts(self.net, taken)
        self.assertEqual(taken, [3, 1, 3, 0])

    def test_the_ties_handed_in_may_be_changed_afterwards(self):
        before = self.answers()
        self.given.append((3, 4))
        self.given[0] = "none"
        del self.given[1]
        self.assertEqual(self.answers(), before)
        self.given.clear()
        self.assertEqual(self.answers(), before)

    def test_even_where_the_ties_were_handed_in_rising(self):
        given = [(0, 1), (0, 2), (1, 2)]
        net = Net(3, given)
        self.assertIsNot(net.ties(), given)
        given.pop()
        self.assertEqual(net.ties(), [(0, 1), (0, 2), (1, 2)])
        self.assertEqual(net.beside(2), [0, 1])

    def test_told_lists_are_new_ones_each_time(self):
        self.assertIsNot(self.net.ties(), self.net.ties())
        self.assertIsNot(self.net.beside(2), self.net.beside(2))
        self.assertIsNot(self.net.beside(4), self.net.beside(4))
        one, other = parts(self.net, []), parts(self.net, [])
        self.assertIsNot(one, other)
        self.assertIsNot(one[0], other[0])

    def test_told_lists_may_be_changed(self):
        before = self.answers()
        for told in (self.net.ties(), self.net.beside(2), self.net.beside(4), parts(self.net, [])):
            told.append("mine")
            told.reverse()
        parts(self.net, [])[0].clear()
        parts(self.net, [2])[0].append(7)
        self.net.ties().clear()
        self.net.beside(0).clear()
        self.assertEqual(self.answers(), before)

    def test_nets_have_nothing_in_common(self):
        other = Net(5, self.given)
        other.ties().clear()
        other.beside(0).append(4)
        self.assertEqual(Net(3, []).ties(), [])
        self.assertEqual(self.net.ties(), [(0, 1), (0, 2), (1, 2), (2, 3)])
        self.assertEqual(other.beside(0), [1, 2])

    def test_a_refused_list_stays_as_it_was(self):
        given = [(2, 3), (0, 1), (1, 0)]
        self.assertIs(refusal(Net, 4, given), BadNet)
        self.assertEqual(given, [(2, 3), (0, 1), (1, 0)])
        taken = [3, 9, 0]
        self.assertIs(refusal(parts, self.net, taken), NoPlace)
        self.assertEqual(taken, [3, 9, 0])


if __name__ == "__main__":
    unittest.main()
