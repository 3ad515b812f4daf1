"""Point 5, of it tell."""

import unittest

from tests.calls import ask, guess, last, load, make, numbers, tell

SQUARE = load(3, "catxyzdog", "dog\ncat")
TOLD = [3] + numbers("catxyzdog")


class Tell(unittest.TestCase):
    def test_columns_then_cells(self):
        self.assertEqual(ask(SQUARE, tell()), [[2], [3, 99, 97, 116, 120, 121, 122, 100, 111, 103]])

    def test_columns_not_rows(self):
        self.assertEqual(last(load(2, "abcdef", "ab"), tell()), [2] + numbers("abcdef"))
        self.assertEqual(last(load(3, "abcdef", "ab"), tell()), [3] + numbers("abcdef"))
        self.assertEqual(last(make(2, 4, 1, "ab", "x"), tell()), [2] + numbers("abxxxxxx"))
        self.assertEqual(last(make(4, 2, 1, "ab", "x"), tell()), [4] + numbers("abxxxxxx"))

    def test_smallest_and_largest(self):
        self.assertEqual(last(load(2, "azby", "az"), tell()), [2] + numbers("azby"))
        cells = "abcdefgh" + "z" * 56
        self.assertEqual(last(load(8, cells, "ab"), tell()), [8] + numbers(cells))
        self.assertEqual(len(last(make(8, 8, 1, "ab", "x"), tell())), 65)

    def test_every_letter(self):
        cells = "abcdefghijklmnopqrstuvwxyzzz"
        self.assertEqual(last(load(7, cells, "ab"), tell()), [7] + numbers(cells))

    def test_made_and_filled(self):
        self.assertEqual(last(make(3, 2, 8, "bc\nabc", "x"), tell()), [3] + numbers("abcxxx"))
        self.assertEqual(last(make(3, 3, 8, "ab", "xyz"), tell()), [3] + numbers("abxyzxyzx"))

    def test_found_or_not(self):
        told = ask(SQUARE, guess(0, 0, 2), tell(), guess(1, 8, 6), tell(), guess(1, 3, 5), tell())
        self.assertEqual(told[2::2], [TOLD, TOLD, TOLD])

    def test_refused_changes_nothing(self):
        for call in (load(9, "ab", "ab"), load(2, "abcd", "ef"), load(2, "abcd", "a"), load(2, "efgh", ""),
                     load(2, "efgh", "ef\nfe"), make(2, 2, 0, "ab", "x"), make(2, 2, 9, "abc", "x"),
                     make(2, 2, 9, "ab", ""), guess(4, 0, 2), guess(0, 0, 0)):
            self.assertEqual(last(SQUARE, call, tell()), TOLD)

    def test_anew(self):
        told = ask(SQUARE, tell(), load(2, "abcd", "ab"), tell(), make(3, 2, 8, "bc\nabc", "x"), tell(), SQUARE, tell())
        self.assertEqual(told[1::2], [TOLD, [2] + numbers("abcd"), [3] + numbers("abcxxx"), TOLD])

    def test_no_square(self):
        self.assertEqual(ask(tell(), load(2, "abc", "ab"), tell(), make(2, 2, 0, "ab", "x"), tell()),
                         [[-61], [-22], [-61], [-35], [-61]])


if __name__ == "__main__":
    unittest.main()
