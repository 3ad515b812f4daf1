"""Point 5, of it rest."""

import unittest

from tests.calls import ask, counted, guess, hint, last, load, make, rest

ALL = "abcdefghijklmnopqrstuvwxy"
SQUARE = load(3, "catxyzdog", "dog\ncat")
CROSSED = load(3, "abcdefghi", "abc\nbeh\naei")
LINE = load(4, "catswxyz", "cats\ncat\nat")


class Rest(unittest.TestCase):
    def test_nothing_found(self):
        self.assertEqual(ask(SQUARE, rest()), [[2], counted("catxyzdog")])

    def test_some_found(self):
        self.assertEqual(last(SQUARE, guess(0, 0, 2), rest()), counted("xyzdog"))
        self.assertEqual(last(SQUARE, guess(0, 6, 8), rest()), counted("catxyz"))

    def test_told_backwards(self):
        self.assertEqual(last(SQUARE, guess(0, 2, 0), rest()), counted("xyzdog"))
        self.assertEqual(last(SQUARE, guess(0, 8, 6), rest()), counted("catxyz"))

    def test_all_found(self):
        told = ask(SQUARE, guess(0, 0, 2), guess(0, 6, 8), hint(), rest(), rest())
        self.assertEqual(told[3:], [[-6], counted("xyz"), counted("xyz")])

    def test_no_cell_unused(self):
        self.assertEqual(last(load(2, "abcd", "ab\ndc"), guess(0, 0, 1), guess(0, 2, 3), rest()), [0])

    def test_row_by_row(self):
        self.assertEqual(last(load(3, "abcdefghi", "beh"), guess(0, 1, 7), rest()), counted("acdfgi"))
        self.assertEqual(last(load(3, "ihgfedcba", "eb"), guess(0, 4, 7), rest()), counted("ihgfdca"))

    def test_all_eight_ways(self):
        for word, cells in (("mno", (12, 13, 14)), ("msy", (12, 18, 24)), ("mrw", (12, 17, 22)), ("mqu", (12, 16, 20)),
                            ("mlk", (12, 11, 10)), ("mga", (12, 6, 0)), ("mhc", (12, 7, 2)), ("mie", (12, 8, 4))):
            unused = [letter for cell, letter in enumerate(ALL) if cell not in cells]
            for first, other in ((cells[0], cells[2]), (cells[2], cells[0])):
                told = last(load(5, ALL, word), guess(0, first, other), rest())
                self.assertEqual(told, counted("".join(unused)), word)

    def test_the_longest_words_on_the_largest_square(self):
        cells = "abcdefgh" + "z" * 48 + "ijklmnop"
        told = last(load(8, cells, "abcdefgh\nponmlkji"), guess(0, 0, 7), guess(1, 56, 63), rest())
        self.assertEqual(told, counted("z" * 48))


class Shared(unittest.TestCase):
    def test_words_that_cross(self):
        self.assertEqual(last(CROSSED, guess(0, 0, 2), rest()), counted("defghi"))
        self.assertEqual(last(CROSSED, guess(0, 0, 2), guess(0, 1, 7), rest()), counted("dfgi"))
        self.assertEqual(last(CROSSED, guess(0, 0, 8), guess(0, 1, 7), rest()), counted("cdfg"))
        self.assertEqual(last(CROSSED, guess(0, 0, 8), guess(0, 1, 7), guess(0, 2, 0), rest()), counted("dfg"))

    def test_a_word_within_anothers_line(self):
        told = ask(LINE, guess(0, 1, 2), rest(), guess(0, 0, 2), rest(), guess(0, 0, 3), rest())
        self.assertEqual(told[2::2], [counted("cswxyz"), counted("swxyz"), counted("wxyz")])
        told = ask(LINE, guess(0, 0, 3), rest(), guess(0, 1, 2), rest())
        self.assertEqual(told[2::2], [counted("wxyz"), counted("wxyz")])

    def test_the_longer_one_is_not_found_with_the_one_within(self):
        self.assertEqual(last(LINE, guess(0, 0, 2), rest()), counted("swxyz"))

    def test_same_backwards(self):
        for first, other in ((0, 2), (2, 0)):
            self.assertEqual(last(load(3, "abaxyz", "aba"), guess(0, first, other), rest()), counted("xyz"))
        for first, other in ((2, 6), (6, 2)):
            self.assertEqual(last(load(3, "xyazbuavw", "aba"), guess(0, first, other), rest()), counted("xyzuvw"))

    def test_same_backwards_and_crossed(self):
        square = load(3, "xayabcuaw", "aba\nabc")
        self.assertEqual(ask(square), [[2]])
        self.assertEqual(last(square, guess(0, 1, 7), rest()), counted("xyacuw"))
        self.assertEqual(last(square, guess(0, 1, 7), guess(1, 3, 5), rest()), counted("xyuw"))

    def test_the_same_letters_on_other_cells(self):
        self.assertEqual(last(load(3, "cattta", "cat"), guess(0, 0, 2), rest()), counted("tta"))
        self.assertEqual(last(load(3, "attcat", "cat"), guess(0, 3, 5), rest()), counted("att"))

    def test_found_by_several(self):
        told = ask(CROSSED, guess(3, 0, 2), guess(0, 7, 1), rest(), guess(2, 8, 0), rest())
        self.assertEqual(told[3::2], [counted("dfgi"), counted("dfg")])


class Between(unittest.TestCase):
    def test_wrong_and_refused_guesses_change_nothing(self):
        for call in (guess(0, 0, 1), guess(0, 3, 5), guess(0, 0, 0), guess(4, 6, 8), guess(0, 6, 9), guess(1, 2, 0),
                     guess(0, 1, 6)):
            self.assertEqual(last(SQUARE, guess(0, 0, 2), call, rest()), counted("xyzdog"))

    def test_refused_squares_change_nothing(self):
        for call in (load(9, "ab", "ab"), load(2, "abcd", "ef"), make(2, 2, 0, "ab", "x"), make(2, 2, 9, "abc", "x")):
            self.assertEqual(last(SQUARE, guess(0, 0, 2), call, rest()), counted("xyzdog"))

    def test_loaded_anew(self):
        told = ask(SQUARE, guess(0, 0, 2), SQUARE, rest(), guess(0, 6, 8), rest())
        self.assertEqual(told[3::2], [counted("catxyzdog"), counted("catxyz")])
        self.assertEqual(last(SQUARE, guess(0, 0, 2), CROSSED, rest()), counted("abcdefghi"))

    def test_made(self):
        square = make(3, 2, 8, "bc\nabc", "x")
        told = ask(SQUARE, guess(0, 0, 2), square, rest(), guess(0, 2, 1), rest(), guess(1, 0, 2), rest())
        self.assertEqual(told[3::2], [counted("abcxxx"), counted("axxx"), counted("xxx")])

    def test_no_square(self):
        self.assertEqual(ask(rest(), load(2, "abc", "ab"), rest(), make(2, 2, 0, "ab", "x"), rest()),
                         [[-61], [-22], [-61], [-35], [-61]])


if __name__ == "__main__":
    unittest.main()
