"""Point 2: make."""

import unittest

from hiddenwords.making import filled
from tests.calls import ask, guess, hint, last, load, make, numbers, score, tell

PAIRS = ["ab", "cd", "ef", "gh", "ij", "kl", "mn", "op", "qr", "st", "uv", "wx", "yz"]


def listed(words):
    return "\n".join(words)


class Ranges(unittest.TestCase):
    def answer(self, wide=3, high=3, most=2000, listing="ab", filling="x"):
        return last(make(wide, high, most, listing, filling))[0]

    def test_sides(self):
        for side in (2, 3, 8):
            self.assertEqual(self.answer(wide=side), 1)
            self.assertEqual(self.answer(high=side), 1)
        for side in (0, 1, 9, 4294967295):
            self.assertEqual(self.answer(wide=side), -22)
            self.assertEqual(self.answer(high=side), -22)

    def test_most(self):
        self.assertEqual(self.answer(most=2000), 1)
        self.assertEqual(self.answer(most=1), 1)
        self.assertEqual(self.answer(most=0), -35)
        self.assertEqual(self.answer(most=2001), -22)
        self.assertEqual(self.answer(most=4294967295), -22)

    def test_bytes_of_the_list(self):
        self.assertEqual(self.answer(listing="a" * 200), -1001)
        self.assertEqual(self.answer(listing="a" * 201), -22)
        self.assertEqual(self.answer(listing="abc\n" * 50), -28)
        self.assertEqual(self.answer(listing="abc\n" * 50 + "\n"), -22)

    def test_lines(self):
        self.assertEqual(self.answer(listing="ab\n"), 1)
        self.assertEqual(self.answer(listing="ab\ncd"), 2)
        self.assertEqual(self.answer(listing="ab\ncd\n"), 2)
        self.assertEqual(self.answer(listing="ab\n\ncd\n"), -1002)
        self.assertEqual(self.answer(listing="\n"), -1001)
        self.assertEqual(self.answer(listing="ab\ncd\n\n"), -1003)
        self.assertEqual(self.answer(listing=""), -28)

    def test_words(self):
        self.assertEqual(self.answer(listing="a"), -1001)
        self.assertEqual(self.answer(listing="ab\ncD\ne"), -1002)
        self.assertEqual(self.answer(wide=8, listing="abcdefgh"), 1)
        self.assertEqual(self.answer(wide=8, listing="abcdefghi"), -1001)
        for byte in (0, 9, 13, 32, 65, 90, 96, 123, 255):
            self.assertEqual(self.answer(listing=[97, byte]), -1001)

    def test_how_many_words(self):
        self.assertEqual(self.answer(wide=8, listing=listed(PAIRS[:12]), filling="z"), 12)
        self.assertEqual(self.answer(wide=8, listing=listed(PAIRS), filling="z"), -28)

    def test_listed_twice(self):
        self.assertEqual(self.answer(listing="ab\ncd\nab"), -17)
        self.assertEqual(self.answer(listing="ab\nba"), -17)
        self.assertEqual(self.answer(listing="aba\naba"), -17)
        self.assertEqual(self.answer(listing="aba"), 1)

    def test_filling(self):
        self.assertEqual(self.answer(filling=""), -71)
        self.assertEqual(self.answer(filling="x"), 1)
        self.assertEqual(self.answer(filling="x" * 64), 1)
        self.assertEqual(self.answer(filling="x" * 65), -71)
        self.assertEqual(self.answer(filling="x" * 80), -71)
        self.assertEqual(self.answer(filling="z"), 1)
        for byte in (0, 10, 32, 65, 90, 96, 123, 255):
            self.assertEqual(self.answer(filling=[byte]), -71)
            self.assertEqual(self.answer(filling=[120] * 63 + [byte]), -71)


class Order(unittest.TestCase):
    def test_which_of_several_refusals(self):
        many = listed(PAIRS)
        for listing in ("a", many, "", "ab\nab", "abcdefgh"):
            for filling in ("", "x"):
                self.assertEqual(last(make(9, 3, 0, listing, filling)), [-22])
                self.assertEqual(last(make(3, 1, 0, listing, filling)), [-22])
                self.assertEqual(last(make(3, 3, 2001, listing, filling)), [-22])
        for filling in ("", "x"):
            self.assertEqual(last(make(3, 3, 0, many + "\na", filling)), [-1014])
            self.assertEqual(last(make(3, 3, 0, "ab\nab\na", filling)), [-1003])
            self.assertEqual(last(make(3, 3, 0, many[:-2] + "ab", filling)), [-28])
            self.assertEqual(last(make(3, 3, 0, "", filling)), [-28])
            self.assertEqual(last(make(3, 3, 0, "ab\nba", filling)), [-17])
        self.assertEqual(last(make(3, 3, 0, "ab", "")), [-71])
        self.assertEqual(last(make(3, 3, 2000, "abcd", "X")), [-71])


class Tries(unittest.TestCase):
    def at_edge(self, wide, high, listing, filling, tries, answer):
        """Just as many tries as most, and one fewer."""
        self.assertEqual(last(make(wide, high, tries, listing, filling)), [answer])
        self.assertEqual(last(make(wide, high, 2000, listing, filling)), [answer])
        self.assertEqual(last(make(wide, high, tries - 1, listing, filling)), [-35])

    def test_first_place(self):
        self.at_edge(2, 2, "ab", "x", 1, 1)
        self.at_edge(2, 2, "ab\ncd", "x", 2, 2)
        self.assertEqual(last(make(2, 2, 2, "ab\ncd", "x"), guess(0, 2, 3)), [1])

    def test_back_to_the_next_place(self):
        # bc on cells 0 and 1: abc on the lower row, from left and from right,
        # brings bc twice (3 tries). On 0 and 4: abc has no place (1). On 0 and
        # 3: abc from cell 5 leftwards brings bc twice (2). On 1 and 2: abc
        # from cell 0 (2).
        self.at_edge(3, 2, "bc\nabc", "x", 8, 8)
        told = ask(make(3, 2, 8, "bc\nabc", "x"), hint(), guess(0, 1, 2), hint())
        self.assertEqual(told, [[8], [0, 1], [0], [1, 0]])

    def test_there_is_none(self):
        # One a and three b, each beside it, wherever the a is: four cells,
        # three ways from each.
        self.at_edge(2, 2, "ab", "b", 12, -33)

    def test_no_place_at_all(self):
        self.assertEqual(last(make(2, 2, 0, "abc", "x")), [-33])
        self.assertEqual(last(make(7, 7, 0, "abcdefgh", "x")), [-33])
        # The first word is put in at each of its twelve places all the same.
        self.at_edge(2, 2, "ab\nabc", "x", 12, -33)

    def test_on_the_same_letters(self):
        # ab on 0 and 1, bc on its b, downwards. ca from cell 2 up to the a
        # brings a second c, from cell 3 leftwards a second a; from cell 3 left
        # and up it lies on letters that are all there.
        self.at_edge(2, 2, "ab\nbc\nca", "x", 5, 5)
        told = ask(make(2, 2, 5, "ab\nbc\nca", "x"), hint(), guess(0, 0, 1), hint(), guess(0, 1, 3), hint())
        self.assertEqual(told, [[5], [0, 0], [0], [1, 1], [1], [2, 3]])

    def test_within_a_word(self):
        self.at_edge(3, 2, "abc\nbc", "x", 2, 2)
        self.assertEqual(last(make(3, 2, 2, "abc\nbc", "x"), guess(0, 1, 2)), [1])

    def test_places_by_cells_then_by_ways(self):
        # With b filled into the first empty cell, each a but one that has
        # just that b beside it fails; worked out place by place:
        # 0: right, right down, down; 1: right, right down, down, left down,
        # left; 2: right; each has a second b. 2, right down: b fills 0 and 4.
        self.at_edge(4, 2, "ab", "bcc", 10, 10)
        told = ask(make(4, 2, 10, "ab", "bcc"), hint(), guess(0, 2, 7))
        self.assertEqual(told, [[10], [0, 2], [0]])

    def test_same_backwards(self):
        self.at_edge(3, 2, "aba", "x", 1, 1)
        # The other row is filled with aba too: two rows, two ways.
        self.at_edge(3, 2, "aba", "aba", 4, -33)
        # Three a on four cells, each beside each: four cells, three ways.
        self.at_edge(2, 2, "aa", "xa", 12, -33)


class Filling(unittest.TestCase):
    def test_row_by_row_into_empty_cells(self):
        self.assertEqual(filled(["a", "", "", "b"], "xyz"), ["a", "x", "y", "b"])
        self.assertEqual(filled(["", "a", "", "", "b", ""], "xy"), ["x", "a", "y", "x", "b", "y"])
        self.assertEqual(filled(["", "", "", ""], "x"), ["x", "x", "x", "x"])
        self.assertEqual(filled(["a", "b", "c", "d"], "x"), ["a", "b", "c", "d"])

    def test_counted_by_empty_cells(self):
        # ab on 0 and 1, then c c c b: only the last, cell 5, is a b, which is
        # not beside cell 0.
        self.assertEqual(last(make(2, 3, 2000, "ab", "cccb")), [1])
        # c b c c: cell 3 is a b, right and down from cell 0.
        self.assertNotEqual(last(make(2, 3, 2000, "ab", "cbcc")), [1])

    def test_by_rows(self):
        # Cell 4 is the third empty one by rows; by columns it would be cell 3.
        self.assertEqual(last(make(2, 3, 2000, "ab", "ccbc")), [1])

    def test_from_the_first_again(self):
        # b c c b c c behind ab on 0 and 1 of four columns: cell 5 is a b.
        self.assertEqual(last(make(4, 2, 2000, "ab", "bcccccc")), [1])
        self.assertEqual(last(make(4, 2, 2000, "ab", "bcc")), [10])

    def test_what_was_made(self):
        self.assertEqual(ask(make(4, 2, 2000, "ab", "bcc"), tell()), [[10], [4] + numbers("bcac" + "bccb")])


class Object(unittest.TestCase):
    GOOD = make(3, 3, 2000, "cat\ndog", "x")
    REFUSED = (
        make(1, 3, 2000, "ab", "x"),
        make(3, 3, 2001, "ab", "x"),
        make(3, 3, 2000, "a" * 201, "x"),
        make(3, 3, 2000, "ab\nc", "x"),
        make(3, 3, 2000, "", "x"),
        make(3, 3, 2000, "ab\nba", "x"),
        make(3, 3, 2000, "ab", ""),
        make(3, 3, 0, "ab", "x"),
        make(2, 2, 2000, "ab", "b"),
    )

    def test_refused_without_a_square(self):
        for call in self.REFUSED:
            self.assertEqual(ask(call, hint())[1], [-61])
            self.assertEqual(ask(call, guess(0, 0, 1))[1], [-61])

    def test_refused_in_the_midst(self):
        for call in self.REFUSED:
            told = ask(self.GOOD, guess(1, 0, 2), call, guess(2, 0, 2), hint(), guess(2, 5, 3), hint())
            self.assertLess(told[2][0], 0)
            self.assertEqual(told[3:], [[-17], [1, 3], [1], [-6]])

    def test_made_anew_in_the_midst(self):
        told = ask(self.GOOD, guess(0, 0, 2), guess(0, 3, 5), hint(), self.GOOD, hint(), guess(1, 2, 0))
        self.assertEqual(told, [[2], [0], [1], [-6], [2], [0, 0], [0]])

    def test_made_and_loaded_in_turn(self):
        loaded = load(2, "abcd", "cd")
        told = ask(loaded, guess(0, 2, 3), self.GOOD, hint(), guess(0, 0, 2), loaded, hint(), guess(0, 0, 4))
        self.assertEqual(told, [[1], [0], [2], [0, 0], [0], [1], [0, 2], [-22]])

    def test_nobody_went_wrong(self):
        square = make(3, 2, 2000, "cat", "x")
        refused = make(3, 2, 0, "cat", "x")
        told = ask(square, guess(2, 0, 1), score(2), refused, score(2), square, score(2))
        self.assertEqual(told, [[1], [255], [0, 1], [-35], [0, 1], [1], [0, 0]])


if __name__ == "__main__":
    unittest.main()
