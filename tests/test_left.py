"""Point 4, of it left."""

import unittest

from tests.calls import ask, guess, last, left, load, make

SQUARE = load(3, "catxyzdog", "dog\ncat\nxyz")
# Two cells of each word, in the order of the list.
TWELVE = ("ab", "cd", "fg", "hi", "kl", "mn", "pq", "rs", "uv", "wx", "bc", "de")
ENDS = ((0, 1), (2, 3), (5, 6), (7, 8), (10, 11), (12, 13), (15, 16), (17, 18), (20, 21), (22, 23), (1, 2), (3, 4))
MANY = load(5, "abcdefghijklmnopqrstuvwxy", "\n".join(TWELVE))


class Left(unittest.TestCase):
    def test_nothing_found(self):
        self.assertEqual(ask(SQUARE, left()), [[3], [3, 0, 1, 2]])
        self.assertEqual(ask(load(2, "abcd", "ab"), left()), [[1], [1, 0]])

    def test_some_found(self):
        self.assertEqual(last(SQUARE, guess(0, 6, 8), left()), [2, 1, 2])
        self.assertEqual(last(SQUARE, guess(0, 0, 2), left()), [2, 0, 2])
        self.assertEqual(last(SQUARE, guess(0, 3, 5), left()), [2, 0, 1])
        self.assertEqual(last(SQUARE, guess(0, 3, 5), guess(0, 6, 8), left()), [1, 1])
        self.assertEqual(last(SQUARE, guess(0, 5, 3), guess(0, 2, 0), left()), [1, 0])

    def test_all_found(self):
        told = ask(SQUARE, guess(0, 3, 5), guess(0, 6, 8), guess(0, 0, 2), left(), left())
        self.assertEqual(told[4:], [[0], [0]])

    def test_found_by_several(self):
        self.assertEqual(last(SQUARE, guess(3, 3, 5), guess(0, 6, 8), left()), [1, 1])
        self.assertEqual(last(SQUARE, guess(3, 3, 5), guess(0, 6, 8), guess(1, 0, 2), left()), [0])

    def test_rising_whatever_is_found_first(self):
        calls = [MANY, left()]
        due = [[12], [12, 0, 1, 2, 3, 4, 5, 6, 7, 8, 9, 10, 11]]
        numbers = list(range(12))
        for number in (5, 11, 0, 7, 6, 10, 1, 9, 2, 8, 4, 3):
            calls += [guess(number % 4, *ENDS[number]), left()]
            numbers.remove(number)
            due += [[number], [len(numbers)] + numbers]
        self.assertEqual(ask(*calls), due)

    def test_a_word_within_anothers_line(self):
        square = load(4, "catswxyz", "cats\ncat\nat")
        self.assertEqual(last(square, guess(0, 0, 3), left()), [2, 1, 2])
        self.assertEqual(last(square, guess(0, 2, 1), left()), [2, 0, 1])

    def test_same_backwards(self):
        square = load(3, "abaxyz", "aba\nyz")
        self.assertEqual(last(square, guess(0, 2, 0), left()), [1, 1])
        self.assertEqual(last(square, guess(0, 0, 2), guess(0, 2, 0), left()), [1, 1])

    def test_wrong_and_refused_guesses_change_nothing(self):
        for call in (guess(0, 0, 1), guess(0, 0, 0), guess(4, 6, 8), guess(0, 6, 9), guess(1, 2, 0), guess(0, 1, 6)):
            self.assertEqual(last(SQUARE, guess(0, 0, 2), call, left()), [2, 0, 2])

    def test_refused_squares_change_nothing(self):
        for call in (load(9, "ab", "ab"), load(2, "abcd", "ef"), make(2, 2, 0, "ab", "x"), make(2, 2, 9, "abc", "x")):
            self.assertEqual(last(SQUARE, guess(0, 0, 2), call, left()), [2, 0, 2])

    def test_loaded_anew(self):
        self.assertEqual(last(SQUARE, guess(0, 0, 2), SQUARE, left()), [3, 0, 1, 2])
        self.assertEqual(last(SQUARE, guess(0, 0, 2), load(2, "abcd", "ab"), left()), [1, 0])

    def test_made(self):
        square = make(3, 2, 8, "bc\nabc", "x")
        told = ask(SQUARE, guess(0, 0, 2), square, left(), guess(0, 2, 1), left(), guess(1, 0, 2), left())
        self.assertEqual(told[3::2], [[2, 0, 1], [1, 1], [0]])

    def test_no_square(self):
        self.assertEqual(ask(left(), load(2, "abc", "ab"), left(), make(2, 2, 0, "ab", "x"), left()),
                         [[-61], [-22], [-61], [-35], [-61]])


if __name__ == "__main__":
    unittest.main()
