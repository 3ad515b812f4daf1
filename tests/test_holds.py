"""What holds over the whole program (a to d)."""

import unittest

from tests.calls import ask, guess, hint, last, left, load, make, numbers, rest, score, state, tell
from tests.model import places_of

GAMES = (
    ("cat\ndog\nxyz", load(3, "catxyzdog", "cat\ndog\nxyz")),
    ("abc\nbeh\nei\ngec", load(3, "abcdefghi", "abc\nbeh\nei\ngec")),
    ("cats\ncat\nat", load(4, "catswxyz", "cats\ncat\nat")),
    ("aba\nabc", load(3, "xayabcuaw", "aba\nabc")),
    ("bc\nabc", make(3, 2, 8, "bc\nabc", "x")),
    ("level\nlemon\nnoon\nmelt", make(6, 5, 2000, "level\nlemon\nnoon\nmelt", "qwzx")),
    ("abcdefgh\nhijklmno\nab", make(8, 8, 2000, "abcdefgh\nhijklmno\nab", "xyz")),
)


def places(listing, square):
    """Of each word its places, each from its first cell to its last, as tell gives the cells."""
    told = last(square, tell())
    wide = told[0]
    cells = {(k % wide, k // wide): byte for k, byte in enumerate(told[1:])}
    high = len(cells) // wide
    found = [places_of(cells, wide, high, numbers(word)) for word in listing.split("\n")]
    return [[[y * wide + x for x, y in path] for path in paths] for paths in found]


class Holds(unittest.TestCase):
    def test_each_word_is_there_just_once(self):
        for listing, square in GAMES:
            for word, paths in zip(listing.split("\n"), places(listing, square)):
                self.assertEqual(len(paths), 2 if word == word[::-1] else 1, word)

    def test_who_guesses_from_first_to_last_or_back_finds_it(self):
        for listing, square in GAMES:
            for number, paths in enumerate(places(listing, square)):
                first, other = paths[0][0], paths[0][-1]
                for who in range(4):
                    self.assertEqual(ask(square, guess(who, first, other), score(who))[1:], [[number], [1, 0]])
                    self.assertEqual(ask(square, guess(who, other, first), score(who))[1:], [[number], [1, 0]])

    def test_what_is_found_stays_with_who_found_it(self):
        for listing, square in GAMES:
            for number, paths in enumerate(places(listing, square)):
                first, other = paths[0][0], paths[0][-1]
                again = [guess(who, *ends) for who in range(4) for ends in ((first, other), (other, first))]
                told = ask(square, guess(2, first, other), *again, *[score(who) for who in range(4)], left())
                self.assertEqual(told[2:10], [[-17]] * 8)
                self.assertEqual(told[10:14], [[0, 0], [0, 0], [1, 0], [0, 0]])
                self.assertNotIn(number, told[14][1:])

    def test_hints_lead_from_word_to_word(self):
        for listing, square in GAMES:
            paths = places(listing, square)
            calls = [square]
            unfound = list(range(len(paths)))
            for step in range(len(paths)):
                told = ask(*calls, hint(), left())[-2:]
                number, cell = told[0]
                self.assertEqual(told[1], [len(unfound)] + unfound)
                self.assertEqual((number, cell), (unfound.pop(0), paths[number][0][0]))
                calls.append(guess(step % 4, cell, paths[number][0][-1]))
                self.assertEqual(last(*calls), [number])
            self.assertEqual(ask(*calls, hint(), left())[-2:], [[-6], [0]])

    def test_rest_when_all_are_found(self):
        for listing, square in GAMES:
            paths = [found[0] for found in places(listing, square)]
            used = [cell for path in paths for cell in path]
            cells = last(square, tell())[1:]
            unused = [byte for cell, byte in enumerate(cells) if cell not in used]
            told = last(square, *[guess(0, path[-1], path[0]) for path in paths], rest())
            self.assertEqual(told, [len(unused)] + unused)


class Unchanged(unittest.TestCase):
    GAME = (load(4, "catswxyz", "cats\nat\nxyz"), guess(0, 0, 3), guess(1, 0, 1), guess(3, 2, 1), guess(3, 7, 0))
    REFUSED = (
        (load(1, "abcd", "ab"), -22), (load(2, "abcd", [97] * 201), -22), (load(2, "abcd", "ab\nC"), -1002),
        (load(2, "abcd", ""), -28), (load(2, "abcd", "ab\nba"), -17), (load(2, "abcd", "xy"), -33),
        (make(9, 2, 9, "ab", "x"), -22), (make(2, 2, 2001, "ab", "x"), -22), (make(2, 2, 9, "a", "x"), -1001),
        (make(2, 2, 9, "", "x"), -28), (make(2, 2, 9, "ab\nab", "x"), -17), (make(2, 2, 9, "ab", ""), -71),
        (make(2, 2, 0, "ab", "x"), -35), (make(2, 2, 9, "abc", "x"), -33),
        (guess(4, 0, 3), -22), (guess(0, 8, 0), -22), (guess(0, 0, 8), -22), (guess(0, 0, 0), -71),
        (guess(0, 0, 6), -71), (guess(2, 0, 3), -17), (guess(2, 3, 0), -17), (score(4), -22),
    )

    def test_what_is_refused_changes_nothing(self):
        before = ask(*self.GAME, *state())[len(self.GAME):]
        self.assertEqual(before, [[2, 5], [4] + numbers("wxyz"), [1, 2], [4] + numbers("catswxyz"),
                                  [1, 0], [0, 1], [0, 0], [1, 0]])
        for call, refusal in self.REFUSED:
            told = ask(*self.GAME, call, *state())[len(self.GAME):]
            self.assertEqual(told, [[refusal]] + before, call)

    def test_what_is_refused_without_a_square_leaves_none(self):
        for call, refusal in self.REFUSED[:14]:
            self.assertEqual(ask(call, *state()), [[refusal]] + [[-61]] * 8, call)

    def test_asking_changes_nothing(self):
        told = ask(*self.GAME, *state(), *state())[len(self.GAME):]
        self.assertEqual(told[:8], told[8:])

    def test_nor_when_all_are_found(self):
        told = ask(*self.GAME, guess(2, 7, 5), *state(), *state())[len(self.GAME) + 1:]
        self.assertEqual(told[:8], told[8:])
        self.assertEqual(told[:4], [[-6], [1] + numbers("w"), [0], [4] + numbers("catswxyz")])


if __name__ == "__main__":
    unittest.main()
