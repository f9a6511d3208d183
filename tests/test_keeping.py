"""Promise 11: kept pairings, and what each deed tells."""

import random
import unittest

from helpers import (NO_SIZES, all_ties, is_pairing, larger_nets, line, most_by_rank, most_by_trying, no_places,
                     odd_rings_in_a_row, refusal, ring, shaped)

from oddpairs.errors import BadNet, NoPlace, NoTie, TieThere
from oddpairs.keeping import Kept
from oddpairs.nets import Net
from oddpairs.ways import better, most


def state(kept):
    """All that a Kept tells."""
    net = kept.net()
    return net.size, net.ties(), [net.beside(place) for place in range(net.size)], kept.pairs()


class Follower:
    """A Kept, and beside it the ties as they must be, put and cut in a way of their own."""

    def __init__(self, test, size):
        self.test = test
        self.size = size
        self.kept = Kept(size)
        self.ties = set()
        self.many = 0

    def deed(self, one, other):
        """Put the tie, or cut it where there is one; check what is told."""
        tie = tuple(sorted((one, other)))
        putting = tie not in self.ties
        self.ties ^= {tie}
        change = (self.kept.put if putting else self.kept.cut)(one, other)
        many = len(most(Net(self.size, sorted(self.ties))))
        self.test.assertIs(type(change), int)
        self.test.assertEqual(change, many - self.many)
        self.test.assertIn(change, (0, 1) if putting else (0, -1))
        self.many = many
        self.check()

    def check(self):
        """Check that the net is as it must be, and that the pairing is a greatest one."""
        ties = sorted(self.ties)
        net, pairs = self.kept.net(), self.kept.pairs()
        self.test.assertEqual((net.size, net.ties()), (self.size, ties))
        self.test.assertTrue(is_pairing(ties, pairs))
        self.test.assertEqual(len(pairs), self.many)
        self.test.assertIsNone(better(net, pairs))

    def check_many(self):
        """Check the number of pairs in a way that is not the program's."""
        self.test.assertEqual(self.many, most_by_rank(self.size, sorted(self.ties)))

    def refused(self, chance):
        """Try what must be refused; check that it is, and that nothing has changed by it."""
        before = state(self.kept)
        one, other = chance.sample(range(self.size), 2)
        tied = tuple(sorted((one, other))) in self.ties
        call, error = (self.kept.put, TieThere) if tied else (self.kept.cut, NoTie)
        self.test.assertIs(refusal(call, one, other), error)
        for deed in (self.kept.put, self.kept.cut):
            self.test.assertIs(refusal(deed, one, one), NoPlace)
            self.test.assertIs(refusal(deed, one, self.size), NoPlace)
            self.test.assertIs(refusal(deed, -1, other), NoPlace)
        self.test.assertEqual(state(self.kept), before)


class RowsOfDeedsTest(unittest.TestCase):
    def test_by_turns_on_two_of_them(self):
        chance = random.Random(71)
        for sizes, many in (((2, 3), 60), ((5, 5), 200), ((6, 8), 300), ((17, 40), 300)):
            both = [Follower(self, size) for size in sizes]
            for number in range(many):
                one = both[number % 2]
                one.deed(*chance.sample(range(one.size), 2))
                one.refused(chance)
                both[(number + 1) % 2].check()
                if number % 10 < 2:
                    one.check_many()

    def test_few_ties_that_come_and_go(self):
        chance = random.Random(72)
        one, other = Follower(self, 40), Follower(self, 39)
        for number in range(600):
            follower = chance.choice((one, other))
            tie = chance.choice(sorted(follower.ties)) if len(follower.ties) > 45 else None
            follower.deed(*(tie or chance.sample(range(follower.size), 2)))
            if number % 20 == 0:
                one.check_many()
                other.check_many()

    def test_small_ones_against_trying_all_pairings(self):
        chance = random.Random(73)
        for size in (2, 3, 4, 5, 6, 7):
            one = Follower(self, size)
            for _ in range(80):
                one.deed(*chance.sample(range(size), 2))
                self.assertEqual(one.many, most_by_trying(sorted(one.ties)))

    def test_shaped_nets_put_tie_by_tie_and_cut_again(self):
        chance = random.Random(74)
        for size, ties in shaped():
            if len(ties) > 100:
                continue
            one = Follower(self, size)
            for deeds in (chance.sample(ties, len(ties)), chance.sample(ties, len(ties))):
                for tie in deeds:
                    one.deed(*tie)
            self.assertEqual((one.kept.net().ties(), one.kept.pairs()), ([], []))

    def test_all_ties_of_40_places(self):
        chance = random.Random(75)
        kept = Kept(40)
        every = chance.sample(all_ties(40), 780)
        self.assertEqual(sum(kept.put(*tie[::-1]) for tie in every), 20)
        self.assertEqual(kept.net().ties(), all_ties(40))
        self.assertTrue(is_pairing(all_ties(40), kept.pairs()))
        self.assertEqual(len(kept.pairs()), 20)
        self.assertEqual(sum(kept.cut(*tie) for tie in every[::-1]), -20)
        self.assertEqual((kept.net().ties(), kept.pairs()), ([], []))

    def test_larger_nets_put_at_once(self):
        for size, ties in larger_nets()[::7]:
            kept = Kept(size)
            told = [kept.put(*tie) for tie in ties]
            self.assertEqual(sum(told), most_by_rank(size, ties))
            self.assertEqual(sum(told), len(kept.pairs()))
            self.assertEqual(kept.net().ties(), ties)


class KnownDeedsTest(unittest.TestCase):
    def test_no_ties_at_first(self):
        for size in (1, 2, 40):
            kept = Kept(size)
            self.assertIs(type(kept.net()), Net)
            self.assertEqual((kept.net().size, kept.net().ties(), kept.pairs()), (size, [], []))

    def test_changes_of_one_and_of_nought(self):
        kept = Kept(4)
        self.assertEqual(kept.put(1, 2), 1)
        self.assertEqual(kept.put(0, 1), 0)
        self.assertEqual(kept.put(2, 3), 1)
        self.assertEqual(kept.pairs(), [(0, 1), (2, 3)])
        self.assertEqual(kept.cut(1, 2), 0)
        self.assertEqual(kept.cut(0, 1), -1)
        self.assertEqual(kept.pairs(), [(2, 3)])
        self.assertEqual(kept.cut(3, 2), -1)
        self.assertEqual((kept.net().ties(), kept.pairs()), ([], []))

    def test_either_order_of_the_places(self):
        kept = Kept(5)
        self.assertEqual(kept.put(4, 0), 1)
        self.assertEqual(kept.net().ties(), [(0, 4)])
        self.assertEqual(kept.pairs(), [(0, 4)])
        self.assertIs(refusal(kept.put, 0, 4), TieThere)
        self.assertIs(refusal(kept.put, 4, 0), TieThere)
        self.assertEqual(kept.cut(0, 4), -1)
        self.assertIs(refusal(kept.cut, 0, 4), NoTie)
        self.assertIs(refusal(kept.cut, 4, 0), NoTie)

    def test_a_cut_pair_is_made_up_for_by_a_long_way(self):
        kept = Kept(40)
        for tie in ring(list(range(40))):
            kept.put(*tie)
        pair = kept.pairs()[7]
        self.assertEqual(kept.cut(*pair), 0)
        self.assertEqual(len(kept.pairs()), 20)
        self.assertNotIn(pair, kept.pairs())

    def test_a_tie_that_makes_a_long_way_round_rings_of_odd_length(self):
        size, ties = odd_rings_in_a_row(5, 7)
        kept = Kept(size + 1)
        for tie in ties:
            kept.put(*tie)
        self.assertEqual(len(kept.pairs()), 17)
        self.assertEqual(kept.put(size, 2), 1)
        self.assertEqual(len(kept.pairs()), 18)
        self.assertEqual(kept.cut(2, size), -1)

    def test_a_line_that_grows(self):
        kept = Kept(40)
        told = [kept.put(*tie) for tie in line(list(range(40)))]
        self.assertEqual(told, [1, 0] * 19 + [1])


class RefusalTest(unittest.TestCase):
    def full(self):
        """A Kept with all ties but (2, 3)."""
        kept = Kept(4)
        for tie in all_ties(4)[:-1]:
            kept.put(*tie)
        return kept

    def test_sizes_that_are_none(self):
        for size in NO_SIZES:
            with self.subTest(str(type(size))):
                self.assertIs(refusal(Kept, size), BadNet)

    def test_what_is_no_place(self):
        kept = self.full()
        before = state(kept)
        for thing in no_places(4):
            for place in (0, 3):
                with self.subTest(str(type(thing)), place=place):
                    for deed in (kept.put, kept.cut):
                        self.assertIs(refusal(deed, thing, place), NoPlace)
                        self.assertIs(refusal(deed, place, thing), NoPlace)
                        self.assertIs(refusal(deed, thing, thing), NoPlace)
                    self.assertEqual(state(kept), before)

    def test_both_are_one_place(self):
        for kept in (self.full(), Kept(4)):
            before = state(kept)
            for place in range(4):
                self.assertIs(refusal(kept.put, place, place), NoPlace)
                self.assertIs(refusal(kept.cut, place, place), NoPlace)
            self.assertEqual(state(kept), before)
        self.assertIs(refusal(Kept(1).put, 0, 0), NoPlace)
        self.assertIs(refusal(Kept(1).cut, 0, 0), NoPlace)

    def test_a_tie_that_is_there(self):
        kept = self.full()
        before = state(kept)
        for one, other in all_ties(4)[:-1]:
            self.assertIs(refusal(kept.put, one, other), TieThere)
            self.assertIs(refusal(kept.put, other, one), TieThere)
        self.assertEqual(state(kept), before)

    def test_a_tie_that_is_not_there(self):
        kept = self.full()
        before = state(kept)
        self.assertIs(refusal(kept.cut, 2, 3), NoTie)
        self.assertIs(refusal(kept.cut, 3, 2), NoTie)
        self.assertEqual(state(kept), before)
        self.assertEqual(kept.put(3, 2), 0)
        self.assertEqual(kept.cut(3, 2), 0)


class NothingSharedTest(unittest.TestCase):
    """Promises 1 and 11: two of them have nothing in common, and what was told stays what it was."""

    def test_what_was_told_earlier_stays(self):
        chance = random.Random(76)
        kept = Kept(12)
        told = []
        for _ in range(150):
            one, other = sorted(chance.sample(range(12), 2))
            (kept.cut if (one, other) in kept.net().ties() else kept.put)(one, other)
            net, pairs, ties = kept.net(), kept.pairs(), kept.net().ties()
            told.append((net, pairs, ties, list(pairs), list(ties)))
            for old, old_pairs, old_ties, same_pairs, same_ties in told:
                self.assertEqual((old_pairs, old_ties), (same_pairs, same_ties))
                self.assertEqual(old.ties(), same_ties)
                self.assertEqual(old.beside(one), [sum(tie) - one for tie in same_ties if one in tie])

    def test_what_was_told_may_be_changed(self):
        kept = Kept(4)
        kept.pairs().append("mine")
        self.assertEqual(kept.pairs(), [])
        kept.put(0, 1)
        kept.put(1, 2)
        before = state(kept)
        for told in (kept.pairs(), kept.net().ties(), kept.net().beside(1)):
            told.append("mine")
            told.reverse()
        kept.pairs().clear()
        kept.net().size = 1
        self.assertEqual(state(kept), before)
        self.assertEqual(kept.put(2, 3), 1)
        kept.pairs().clear()
        self.assertEqual(kept.pairs(), [(0, 1), (2, 3)])

    def test_told_lists_and_nets_are_new_ones_each_time(self):
        kept = Kept(3)
        for _ in range(2):
            self.assertIsNot(kept.pairs(), kept.pairs())
            self.assertIsNot(kept.net(), kept.net())
            self.assertIsNot(kept.net().ties(), kept.net().ties())
            if not kept.pairs():
                kept.put(0, 2)

    def test_two_of_them_have_nothing_in_common(self):
        one, other = Kept(4), Kept(4)
        one.put(0, 1)
        self.assertEqual((other.net().ties(), other.pairs()), ([], []))
        self.assertIs(refusal(other.cut, 0, 1), NoTie)
        self.assertEqual(other.put(0, 1), 1)
        self.assertEqual(one.cut(0, 1), -1)
        self.assertEqual((other.net().ties(), other.pairs()), ([(0, 1)], [(0, 1)]))
        self.assertEqual((Kept(4).net().ties(), Kept(4).pairs()), ([], []))


if __name__ == "__main__":
    unittest.main()
