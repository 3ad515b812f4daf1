"""Point 3: guess."""

import unittest

from tests.calls import ask, guess, hint, last, load, make, score

ALL = "abcdefghijklmnopqrstuvwxy"
# From the middle, cell 12, two steps each way, and the cell that leads to.
RAYS = (("mno", 14), ("msy", 24), ("mrw", 22), ("mqu", 20), ("mlk", 10), ("mga", 0), ("mhc", 2), ("mie", 4))
STAR = load(5, ALL, "\n".join(word for word, cell in RAYS))
LINE = load(4, "catswxyz", "cats\ncat\nat")


class Ways(unittest.TestCase):
    def test_all_eight(self):
        self.assertEqual(ask(STAR), [[8]])
        for number, (word, cell) in enumerate(RAYS):
            self.assertEqual(last(STAR, guess(0, 12, cell)), [number], word)

    def test_all_eight_backwards(self):
        for number, (word, cell) in enumerate(RAYS):
            self.assertEqual(last(STAR, guess(0, cell, 12)), [number], word)

    def test_all_in_one_game(self):
        told = ask(STAR, *[guess(k % 4, 12, cell) for k, (word, cell) in enumerate(RAYS)], hint())
        self.assertEqual(told, [[8]] + [[k] for k in range(8)] + [[-6]])

    def test_each_way_from_side_to_side(self):
        ends = (("abcd", 0, 3), ("aeim", 0, 12), ("afkp", 0, 15), ("dgjm", 3, 12), ("nk", 13, 10))
        for word, first, other in ends:
            square = load(4, ALL[:16], word)
            self.assertEqual(last(square, guess(0, first, other)), [0])
            self.assertEqual(last(square, guess(0, other, first)), [0])

    def test_square_that_is_wider_than_high(self):
        square = load(8, "abcdefgh" + "ijklmnop", "gp\nai")
        self.assertEqual(last(square, guess(0, 6, 15)), [0])
        self.assertEqual(last(square, guess(0, 8, 0)), [1])
        self.assertEqual(last(square, guess(0, 0, 15)), [-71])


class Lines(unittest.TestCase):
    def test_one_cell(self):
        for cell in (0, 12, 24):
            self.assertEqual(last(STAR, guess(0, cell, cell)), [-71])

    def test_knights_moves(self):
        for cell in (12 - 11, 12 - 9, 12 - 7, 12 - 3, 12 + 3, 12 + 7, 12 + 9, 12 + 11):
            self.assertEqual(last(STAR, guess(0, 12, cell)), [-71])
            self.assertEqual(last(STAR, guess(0, cell, 12)), [-71])

    def test_all_pairs_of_cells(self):
        for first in range(25):
            for other in range(25):
                across = other % 5 - first % 5
                down = other // 5 - first // 5
                straight = first != other and (across == 0 or down == 0 or abs(across) == abs(down))
                told = last(STAR, guess(0, first, other))
                self.assertEqual(told != [-71], straight, (first, other))

    def test_over_the_side(self):
        self.assertEqual(last(STAR, guess(0, 4, 5)), [-71])
        self.assertEqual(last(load(2, "abcd", "bc"), guess(0, 1, 2)), [0])

    def test_refused_does_not_count_as_wrong(self):
        refused = (guess(0, 0, 0), guess(0, 0, 5), guess(4, 0, 1), guess(0, 6, 0), guess(0, 0, 6))
        told = ask(load(3, "catxyz", "cat"), *refused, guess(0, 0, 2), guess(0, 0, 2), score(0))
        self.assertEqual(told[1:], [[-71], [-71], [-22], [-22], [-22], [0], [-17], [1, 0]])


class Ranges(unittest.TestCase):
    def test_the_fifth_player(self):
        self.assertEqual(last(STAR, guess(3, 12, 14)), [0])
        self.assertEqual(last(STAR, guess(4, 12, 14)), [-22])
        self.assertEqual(last(STAR, guess(4294967295, 12, 14)), [-22])

    def test_last_cell_and_the_one_behind_it(self):
        self.assertEqual(last(STAR, guess(0, 12, 24)), [1])
        self.assertEqual(last(STAR, guess(0, 24, 12)), [1])
        self.assertEqual(last(STAR, guess(0, 12, 25)), [-22])
        self.assertEqual(last(STAR, guess(0, 25, 12)), [-22])
        self.assertEqual(last(STAR, guess(0, 25, 24)), [-22])
        self.assertEqual(last(STAR, guess(0, 0, 4294967295)), [-22])
        self.assertEqual(last(STAR, guess(0, 4294967295, 0)), [-22])

    def test_range_is_told_ahead_of_line(self):
        self.assertEqual(last(STAR, guess(4, 0, 0)), [-22])
        self.assertEqual(last(STAR, guess(4, 12, 1)), [-22])
        self.assertEqual(last(STAR, guess(0, 25, 25)), [-22])
        self.assertEqual(last(STAR, guess(0, 0, 27)), [-22])


class Found(unittest.TestCase):
    def test_found_already(self):
        for who in (0, 1, 3):
            told = ask(STAR, guess(0, 12, 14), guess(who, 12, 14), guess(who, 14, 12))
            self.assertEqual(told[1:], [[0], [-17], [-17]])

    def test_found_already_when_first_told_backwards(self):
        told = ask(STAR, guess(0, 20, 12), guess(1, 12, 20), guess(1, 20, 12))
        self.assertEqual(told[1:], [[3], [-17], [-17]])

    def test_stays_with_who_found_it(self):
        told = ask(LINE, guess(2, 0, 2), guess(0, 0, 2), guess(0, 2, 1), score(2), score(0))
        self.assertEqual(told[1:], [[1], [-17], [2], [1, 0], [1, 0]])

    def test_same_backwards(self):
        square = load(3, "abaxyz", "aba")
        self.assertEqual(ask(square, guess(0, 0, 2), guess(1, 2, 0)), [[1], [0], [-17]])
        self.assertEqual(ask(square, guess(0, 2, 0), guess(1, 0, 2)), [[1], [0], [-17]])

    def test_a_word_within_anothers_line(self):
        self.assertEqual(ask(LINE, guess(0, 0, 3), guess(0, 0, 2), guess(0, 1, 2)), [[3], [0], [1], [2]])
        self.assertEqual(ask(LINE, guess(0, 2, 1), guess(0, 2, 0), guess(0, 3, 0)), [[3], [2], [1], [0]])
        self.assertEqual(ask(LINE, guess(0, 0, 2), guess(0, 0, 1), guess(0, 0, 3)), [[3], [1], [255], [0]])

    def test_found_on_a_square_that_was_made(self):
        told = ask(make(3, 2, 8, "bc\nabc", "x"), guess(1, 0, 2), guess(2, 2, 1), guess(0, 0, 2), guess(0, 3, 4))
        self.assertEqual(told, [[8], [1], [0], [-17], [255]])


class Wrong(unittest.TestCase):
    def test_no_word(self):
        self.assertEqual(last(STAR, guess(0, 0, 1)), [255])
        self.assertEqual(last(STAR, guess(0, 12, 13)), [255])
        self.assertEqual(last(STAR, guess(3, 10, 14)), [255])

    def test_wrong_is_no_find(self):
        told = ask(STAR, guess(0, 12, 13), guess(0, 12, 13), guess(0, 12, 14))
        self.assertEqual(told[1:], [[255], [255], [0]])

    def test_who_went_wrong_how_often(self):
        wrong = [guess(who, 3, 5) for who in (0, 3, 3, 1, 3)]
        told = ask(load(3, "catxyz", "cat"), *wrong, *[score(who) for who in range(4)])
        self.assertEqual(told[1:], [[255]] * 5 + [[0, 1], [0, 1], [0, 0], [0, 3]])


class NoSquare(unittest.TestCase):
    def test_ahead_of_its_own_refusals(self):
        for call in (guess(0, 0, 1), guess(4, 0, 1), guess(0, 0, 0), guess(0, 4294967295, 0), guess(9, 99, 99)):
            self.assertEqual(ask(call), [[-61]])


if __name__ == "__main__":
    unittest.main()
