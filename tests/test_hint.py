"""Point 4, of it hint."""

import unittest

from tests.calls import ask, guess, hint, last, load, make

ALL = "abcdefghijklmnopqrstuvwxy"


class Hint(unittest.TestCase):
    def test_first_word_that_nobody_has(self):
        square = load(3, "catxyzdog", "dog\ncat\nxyz")
        self.assertEqual(ask(square, hint(), hint()), [[3], [0, 6], [0, 6]])
        self.assertEqual(last(square, guess(0, 6, 8), hint()), [1, 0])
        self.assertEqual(last(square, guess(0, 0, 2), hint()), [0, 6])
        self.assertEqual(last(square, guess(0, 6, 8), guess(1, 2, 0), hint()), [2, 3])
        self.assertEqual(last(square, guess(0, 0, 2), guess(1, 3, 5), hint()), [0, 6])

    def test_the_cell_of_its_first_letter(self):
        for word, cell in (("mno", 12), ("onm", 14), ("klm", 10), ("agm", 0), ("smg", 18), ("eim", 4),
                           ("mie", 12), ("chm", 2), ("mhc", 12), ("uqm", 20), ("yx", 24), ("ba", 1)):
            self.assertEqual(last(load(5, ALL, word), hint()), [0, cell], word)

    def test_same_backwards(self):
        self.assertEqual(last(load(3, "xyzaba", "aba"), hint()), [0, 3])
        self.assertEqual(last(load(2, "xaybza", "aba"), hint()), [0, 1])

    def test_same_backwards_on_both_slopes(self):
        self.assertEqual(last(load(3, "axyzbuvwa", "aba"), hint()), [0, 0])
        self.assertEqual(last(load(3, "xyazbuavw", "aba"), hint()), [0, 2])

    def test_all_found(self):
        square = load(3, "catxyzdog", "dog\ncat")
        self.assertEqual(ask(square, guess(0, 8, 6), guess(3, 0, 2), hint(), hint())[3:], [[-6], [-6]])

    def test_wrong_and_refused_guesses_change_nothing(self):
        square = load(3, "catxyzdog", "dog\ncat")
        for call in (guess(0, 0, 1), guess(0, 0, 0), guess(4, 6, 8), guess(0, 6, 9)):
            self.assertEqual(last(square, call, hint()), [0, 6])

    def test_no_square(self):
        self.assertEqual(ask(hint(), hint()), [[-61], [-61]])

    def test_on_a_square_that_was_made(self):
        self.assertEqual(last(make(3, 2, 8, "bc\nabc", "x"), hint()), [0, 1])
        self.assertEqual(last(make(3, 2, 8, "bc\nabc", "x"), guess(0, 1, 2), hint()), [1, 0])


if __name__ == "__main__":
    unittest.main()
