"""Promise 12: nets written as texts, and texts read as nets."""

import random
import re
import unittest

from helpers import all_ties, dense_nets, every_tie_list, larger_nets, net_of, refusal, small_nets

from oddpairs.errors import BadNet
from oddpairs.nets import Net
from oddpairs.notes import read, shown

NUMBER = "(?:0|[1-9][0-9]*)"

NO_TEXTS = [None, True, False, 0, 4, 1.0, b"4: 0-1", b"", ["4: 0-1"], ("4: 0-1",), {}, {"4: 0-1": True}, [], (),
            ["4", ":"], Net(4, []), bytearray(b"4:")]

# Texts, each of which has something that the text of a net has not.
WRONG = {
    "nothing or too little": ["", ":", "4", " ", "0-1", ": 0-1", "4 0-1", "4 ", "4 :", " 0-1", "-"],
    "noughts ahead": ["04:", "00:", "01:", "4: 00-1", "4: 0-01", "4: 00-01", "012: 0-1", "12: 02-3", "12: 2-03",
                      "4: 000-1", "4: 0-0000000001", "004: 0-1"],
    "other blanks": ["4:0-1", "4:  0-1", "4: 0-1 ", "4: ", "4:  ", " 4:", " 4: 0-1", "4 : 0-1", "4: 0 -1", "4: 0- 1",
                     "4: 0-1  2-3", "4:\t0-1", "4: 0-1\t2-3", "4: 0-12-3", "4: 0-1,2-3", "4: 0-1, 2-3", "4:\u00a00-1",
                     "4:\u20030-1", "4: 0-1\u00a02-3", "4: 0-1\x0b2-3", "4: 0-1\x1f2-3", "4:\u30000-1", "1 2: 0-1"],
    "line ends": ["4:\n", "4: 0-1\n", "4: 0-1\r", "4: 0-1\r\n", "\n4:", "4: 0-1\n2-3", "4:\n0-1", "4: 0-1\n\n",
                  "4: 0-1\n4: 0-1", "4:\x0b", "4: 0-1\x0c", "4: 0-1\u2028", "4: 0-1\x85", "4: 0-1\x00", "\ufeff4:"],
    "signs that are figures elsewhere": ["\uff14:", "\u0664:", "4: \u0660-\u0661", "4: 0-\u0661", "4: \u06f0-1",
                                         "4: 0-\u00b9", "\u2463:", "4: 0-\u2460", "4: 0-\u0967", "\u0be7:",
                                         "4: 0-\U0001d7cf", "1\uff12: 0-1", "\u00bd:", "\u2163:", "\u56db:"],
    "other signs": ["+4:", "-4:", "4: +0-1", "4: 0-+1", "4: -0-1", "4: 0--1", "4: -1-2", "4_0:", "1_2: 0-1",
                    "12: 1_0-11", "4.0:", "4: 0-1.0", "4e0:", "0x4:", "4: 0x0-1", "4: 0:1", "4: 0\u20131",
                    "4: 0\u22121", "4; 0-1", "4\uff1a 0-1", "4: 0+1", "4: 0=1", "four:", "4: a-b", "4: 0-1;", "(4: 0-1)", "4: (0, 1)",
                    "4: [(0, 1)]", "True:", "None:", "4: None-None", "4: 0-None", "4: True-2"],
    "too much or too little": ["4::", "4:: 0-1", "4: 0-1:", "4: 0-1 : 2-3", "4: 0-1-2", "4: 0", "4: 0-", "4: -1",
                               "4: -", "4: 0-1 2", "4: 0-1 2-", "4: 0 1", "4:4:", "4: 4: 0-1", "4: 0-1 -", "4: --",
                               "4x", "4: 0-1 x", "x4: 0-1"],
    "ties that do not rise": ["4: 2-3 0-1", "4: 0-2 0-1", "4: 0-1 1-2 0-3", "12: 0-10 0-9", "12: 10-11 2-3",
                              "4: 0-1 2-3 1-2"],
    "ties that stand twice": ["4: 0-1 0-1", "4: 0-1 2-3 2-3", "4: 0-1 0-2 0-1", "4: 0-1 0-1 2-3"],
    "ties turned round": ["4: 1-0", "4: 0-1 3-2", "4: 0-1 1-0", "40: 39-0"],
    "a place beside itself": ["4: 0-0", "4: 3-3", "1: 0-0", "4: 0-1 2-2"],
    "sizes that make no net": ["0:", "41:", "99:", "100:", "400:", "0: 0-1", "41: 0-1", "50: 0-49", "1" * 9 + ":",
                               "1" * 5000 + ":", "0" * 5000 + "4:"],
    "places that are not of the net": ["4: 0-4", "4: 4-5", "4: 0-1 2-4", "1: 0-1", "40: 0-40", "40: 39-40",
                                       "4: 0-99", "4: 0-100", "4: 0-" + "1" * 5000, "4: " + "9" * 5000 + "-1"],
}


def as_the_document_says(text):
    """The size and ties of the net that the text writes, found in another way than the program's; or None."""
    if not re.fullmatch(f"{NUMBER}:(?: {NUMBER}-{NUMBER})*", text):
        return None
    size, *places = [int(word) for word in re.findall("[0-9]+", text)]
    ties = list(zip(places[::2], places[1::2]))
    rising = all(one < other for one, other in zip(ties, ties[1:]))
    within = all(one < other < size for one, other in ties)
    return (size, ties) if 1 <= size <= 40 and rising and within else None


class ShownTest(unittest.TestCase):
    def test_known_texts(self):
        self.assertEqual(shown(Net(4, [(2, 3), (0, 1)])), "4: 0-1 2-3")
        self.assertEqual(shown(Net(1, [])), "1:")
        self.assertEqual(shown(Net(40, [])), "40:")
        self.assertEqual(shown(Net(40, [(0, 39), (10, 20), (9, 10)])), "40: 0-39 9-10 10-20")
        self.assertEqual(shown(Net(3, [(1, 2), (0, 2), (0, 1)])), "3: 0-1 0-2 1-2")
        self.assertIs(type(shown(Net(1, []))), str)

    def test_larger_nets(self):
        for size, ties in larger_nets() + dense_nets():
            words = [f"{size}:"] + [f"{one}-{other}" for one, other in ties]
            self.assertEqual(shown(Net(size, ties[::-1])), " ".join(words))


class ReadTest(unittest.TestCase):
    def assert_same(self, size, ties):
        text = shown(Net(size, ties))
        net = read(text)
        self.assertIs(type(net), Net)
        self.assertEqual((net.size, net.ties()), (size, sorted(ties)))
        self.assertEqual([net.beside(place) for place in range(size)],
                         [Net(size, ties).beside(place) for place in range(size)])
        self.assertEqual(shown(net), text)

    def test_known_texts(self):
        self.assertEqual(read("4: 0-1 2-3").ties(), [(0, 1), (2, 3)])
        self.assertEqual(read("4: 0-1 2-3").size, 4)
        self.assertEqual((read("1:").size, read("1:").ties()), (1, []))
        self.assertEqual(read("40: 0-39 9-10 10-20").ties(), [(0, 39), (9, 10), (10, 20)])

    def test_sizes_from_1_to_40(self):
        for size in range(1, 41):
            self.assertEqual((read(f"{size}:").size, read(f"{size}:").ties()), (size, []))

    def test_every_net_of_up_to_four_places(self):
        for size in range(1, 5):
            for ties in every_tie_list(size):
                self.assert_same(size, ties)

    def test_larger_nets(self):
        for size, ties in larger_nets() + dense_nets() + small_nets(range(5, 12), 20):
            self.assert_same(size, ties)
        self.assert_same(40, all_ties(40))

    def test_shown_of_what_is_read_is_the_same_text(self):
        for text in ("1:", "40:", "2: 0-1", "4: 0-1 0-2 0-3 1-2 1-3 2-3", "11: 0-9 0-10 9-10", "40: 38-39"):
            self.assertEqual(shown(read(text)), text)

    def test_each_text_read_is_a_new_net(self):
        self.assertIsNot(read("2: 0-1"), read("2: 0-1"))
        read("2: 0-1").ties().clear()
        self.assertEqual(read("2: 0-1").ties(), [(0, 1)])


class BadNetTest(unittest.TestCase):
    def test_what_is_no_text(self):
        for thing in NO_TEXTS:
            with self.subTest(str(type(thing))):
                self.assertIs(refusal(read, thing), BadNet)

    def test_wrong_texts(self):
        for why, texts in WRONG.items():
            for text in texts:
                with self.subTest(why, text=text[:40]):
                    self.assertIs(refusal(read, text), BadNet)

    def test_texts_with_one_sign_more_less_or_other(self):
        chance = random.Random(81)
        rows = small_nets(range(1, 6), 3) + [(12, [(0, 9), (0, 10), (10, 11)]), (40, [(3, 39), (38, 39)])]
        for row in rows:
            text = shown(net_of(row))
            for at in range(len(text) + 1):
                self.assert_as_the_document_says(text[:at] + text[at + 1:])
                for sign in "0123456789:- \n\t+_." + chance.choice("\u0661\u00b2\uff15\u00a0a\x00"):
                    self.assert_as_the_document_says(text[:at] + sign + text[at:])
                    self.assert_as_the_document_says(text[:at] + sign + text[at + 1:])

    def test_texts_put_together_by_chance(self):
        chance = random.Random(82)
        pieces = ["0", "1", "2", "3", "12", "40", "41", ":", "-", " ", " ", "0-1", " 0-1", " 1-2", " 2-3", "4:", "04"]
        for _ in range(20000):
            self.assert_as_the_document_says("".join(chance.choices(pieces, k=chance.randrange(7))))
            self.assert_as_the_document_says("4:" + "".join(chance.choices(pieces, k=chance.randrange(5))))

    def assert_as_the_document_says(self, text):
        row = as_the_document_says(text)
        if row is None:
            self.assertIs(refusal(read, text), BadNet, repr(text))
        else:
            net = read(text)
            self.assertEqual((net.size, net.ties()), row)
            self.assertEqual(shown(net), text)


if __name__ == "__main__":
    unittest.main()
