"""Point 6: score."""

import unittest

from hiddenwords.puzzle import Puzzle
from tests.calls import ask, guess, last, load, make, numbers, score

SQUARE = load(3, "catxyzdog", "dog\ncat\nxyz")
ALL_FOUR = [score(who) for who in range(4)]


def scores(*calls):
    return ask(*calls, *ALL_FOUR)[-4:]


class Score(unittest.TestCase):
    def test_nothing_found(self):
        self.assertEqual(scores(SQUARE), [[0, 0], [0, 0], [0, 0], [0, 0]])

    def test_found(self):
        self.assertEqual(scores(SQUARE, guess(2, 0, 2)), [[0, 0], [0, 0], [1, 0], [0, 0]])
        self.assertEqual(scores(SQUARE, guess(2, 0, 2), guess(2, 8, 6)), [[0, 0], [0, 0], [2, 0], [0, 0]])

    def test_all_found(self):
        self.assertEqual(scores(SQUARE, guess(2, 0, 2), guess(0, 8, 6), guess(3, 3, 5)),
                         [[1, 0], [0, 0], [1, 0], [1, 0]])
        self.assertEqual(scores(SQUARE, guess(1, 0, 2), guess(1, 8, 6), guess(1, 3, 5)),
                         [[0, 0], [3, 0], [0, 0], [0, 0]])

    def test_went_wrong(self):
        self.assertEqual(scores(SQUARE, *[guess(who, 0, 1) for who in (0, 3, 3, 1, 3)]),
                         [[0, 1], [0, 1], [0, 0], [0, 3]])

    def test_found_and_went_wrong(self):
        self.assertEqual(scores(SQUARE, guess(0, 0, 1), guess(0, 0, 2), guess(0, 0, 1), guess(3, 6, 7), guess(0, 6, 8)),
                         [[2, 2], [0, 0], [0, 0], [0, 1]])

    def test_wrong_when_all_are_found(self):
        told = last(load(2, "abcd", "ab"), guess(0, 0, 1), guess(0, 0, 2), score(0))
        self.assertEqual(told, [1, 1])

    def test_found_already_is_not_wrong_and_stays_with_who_found_it(self):
        self.assertEqual(scores(SQUARE, guess(1, 0, 2), guess(0, 0, 2), guess(0, 2, 0), guess(1, 2, 0)),
                         [[0, 0], [1, 0], [0, 0], [0, 0]])

    def test_refused_does_not_count(self):
        for call in (guess(0, 0, 0), guess(0, 0, 5), guess(4, 0, 2), guess(4, 0, 1), guess(0, 9, 0), guess(0, 0, 9)):
            self.assertEqual(scores(SQUARE, guess(0, 0, 1), call), [[0, 1], [0, 0], [0, 0], [0, 0]])

    def test_as_often_as_calls_allow(self):
        self.assertEqual(last(SQUARE, *[guess(3, 0, 1)] * 298, score(3)), [0, 298])

    def test_a_million_at_most(self):
        puzzle = Puzzle()
        puzzle.load(3, numbers("catxyz"), numbers("cat"))
        puzzle.wrong[1] = 999999
        for often in (1000000, 1000000):
            self.assertEqual(puzzle.guess(1, 3, 5), [255])
            self.assertEqual(puzzle.score(1), [0, often])


class Refused(unittest.TestCase):
    def test_the_fifth_player(self):
        self.assertEqual(last(SQUARE, score(3)), [0, 0])
        for who in (4, 5, 255, 4294967295):
            self.assertEqual(last(SQUARE, score(who)), [-22])

    def test_no_square_is_told_ahead(self):
        for who in (0, 3, 4, 4294967295):
            self.assertEqual(ask(score(who), load(2, "abc", "ab"), score(who), make(2, 2, 0, "ab", "x"), score(who)),
                             [[-61], [-22], [-61], [-35], [-61]])


class Anew(unittest.TestCase):
    def test_loaded_or_made_anew(self):
        for anew in (SQUARE, load(2, "abcd", "ab"), make(3, 2, 8, "bc\nabc", "x")):
            self.assertEqual(scores(SQUARE, guess(0, 0, 2), guess(1, 0, 1), guess(3, 0, 1), anew), [[0, 0]] * 4)

    def test_counted_from_there_on(self):
        self.assertEqual(scores(SQUARE, guess(0, 0, 2), guess(1, 0, 1), SQUARE, guess(1, 0, 2), guess(0, 0, 1)),
                         [[0, 1], [1, 0], [0, 0], [0, 0]])

    def test_refused_squares_change_nothing(self):
        for call in (load(9, "ab", "ab"), load(2, "abcd", "ef"), make(2, 2, 0, "ab", "x"), make(2, 2, 9, "abc", "x")):
            self.assertEqual(scores(SQUARE, guess(0, 0, 2), guess(1, 0, 1), call), [[1, 0], [0, 1], [0, 0], [0, 0]])


if __name__ == "__main__":
    unittest.main()
