"""Point 1: load."""

import unittest

from tests.calls import ask, guess, hint, last, load, score

# Every letter once, so that each line of it is there just once.
ALL = "abcdefghijklmnopqrstuvwxy"
PAIRS = ["ab", "bc", "cd", "de", "fg", "gh", "hi", "ij", "kl", "lm", "mn", "no", "pq"]


def listed(words):
    return "\n".join(words)


class Squares(unittest.TestCase):
    def refused(self, wide, cells):
        self.assertEqual(last(load(wide, cells, "ab")), [-22])

    def test_ordinary(self):
        self.assertEqual(ask(load(3, "catxyzdog", "cat\ndog")), [[2]])

    def test_least_and_most_sides(self):
        self.assertEqual(last(load(2, "abcd", "ab")), [1])
        self.assertEqual(last(load(8, "ab" + "x" * 62, "ab")), [1])
        self.assertEqual(last(load(2, "ab" + "x" * 14, "ab")), [1])
        self.assertEqual(last(load(8, "ab" + "x" * 14, "ab")), [1])

    def test_too_narrow_or_too_wide(self):
        self.refused(0, "")
        self.refused(0, "abcd")
        self.refused(1, "ab")
        self.refused(9, "ab" + "x" * 16)
        self.refused(4294967295, "ab" + "x" * 62)

    def test_too_low_or_too_high(self):
        self.refused(2, "")
        self.refused(2, "ab")
        self.refused(8, "abxxxxxx")
        self.refused(2, "ab" + "x" * 16)
        self.refused(8, "ab" + "x" * 70)

    def test_a_row_that_is_not_whole(self):
        self.refused(2, "abxxx")
        self.refused(3, "abxxx")
        self.refused(8, "ab" + "x" * 61)
        self.refused(7, "ab" + "x" * 62)

    def test_cells_that_are_no_letters(self):
        for byte in (0, 10, 32, 65, 90, 96, 123, 255):
            self.refused(2, [97, 98, 99, byte])
            self.refused(2, [byte, 97, 98, 99])

    def test_first_and_last_letter(self):
        self.assertEqual(last(load(2, "azaa", "zz")), [-33])
        self.assertEqual(last(load(2, "azbb", "az")), [1])


class Lists(unittest.TestCase):
    def answer(self, listing):
        return last(load(5, ALL, listing))[0]

    def test_line_end_at_the_end(self):
        self.assertEqual(self.answer("ab"), 1)
        self.assertEqual(self.answer("ab\n"), 1)
        self.assertEqual(self.answer("ab\ncd"), 2)
        self.assertEqual(self.answer("ab\ncd\n"), 2)

    def test_empty_lines(self):
        self.assertEqual(self.answer("\n"), -1001)
        self.assertEqual(self.answer("\nab"), -1001)
        self.assertEqual(self.answer("ab\n\ncd"), -1002)
        self.assertEqual(self.answer("ab\n\n"), -1002)

    def test_empty(self):
        self.assertEqual(self.answer(""), -28)

    def test_how_long_words_are(self):
        long = "abcdefgh" + "stuvwxyz"
        self.assertEqual(self.answer("a"), -1001)
        self.assertEqual(self.answer("ab"), 1)
        self.assertEqual(last(load(8, long, "abcdefgh")), [1])
        self.assertEqual(last(load(8, long, "abcdefghi")), [-1001])

    def test_letters_of_words(self):
        for byte in (0, 9, 13, 32, 65, 90, 96, 123, 255):
            self.assertEqual(self.answer([97, 98, byte]), -1001)
            self.assertEqual(self.answer([byte, 97, 98]), -1001)
            self.assertEqual(self.answer([97, 98, 10, 98, byte]), -1002)

    def test_the_first_bad_line_is_told(self):
        self.assertEqual(self.answer("ab\nbc\nc"), -1003)
        self.assertEqual(self.answer("ab\nC\nbc\nd"), -1002)
        self.assertEqual(self.answer("ab\n" * 66 + "\n"), -1067)

    def test_how_many_words(self):
        self.assertEqual(self.answer(listed(PAIRS[:12])), 12)
        self.assertEqual(self.answer(listed(PAIRS)), -28)

    def test_how_many_bytes(self):
        self.assertEqual(self.answer("a" * 200), -1001)
        self.assertEqual(self.answer("a" * 201), -22)
        self.assertEqual(self.answer("abc\n" * 50), -28)
        self.assertEqual(self.answer("abc\n" * 50 + "\n"), -22)

    def test_listed_twice(self):
        self.assertEqual(self.answer("ab\nab"), -17)
        self.assertEqual(self.answer("ab\ncd\nab"), -17)

    def test_listed_backwards_too(self):
        self.assertEqual(self.answer("ab\nba"), -17)
        self.assertEqual(self.answer("abc\nfg\ncba"), -17)

    def test_same_backwards_is_not_listed_twice(self):
        self.assertEqual(last(load(3, "abaxyz", "aba")), [1])
        self.assertEqual(last(load(3, "abaxyz", "aba\naba")), [-17])

    def test_a_word_within_another_is_another(self):
        self.assertEqual(self.answer("abc\nab\nbc"), 3)


class Right(unittest.TestCase):
    def test_at_no_place(self):
        self.assertEqual(last(load(2, "abcd", "ax")), [-33])
        self.assertEqual(last(load(5, ALL, "ab\nac")), [-33])
        self.assertEqual(last(load(2, "abcd", "abc")), [-33])

    def test_not_across_the_side(self):
        for word in ("ef", "fe", "eg", "ga", "abcdef"):
            wanted = 1 if word == "ga" else -33
            self.assertEqual(last(load(5, ALL, word)), [wanted])

    def test_not_round_a_corner(self):
        self.assertEqual(last(load(3, "abcdefghi", "abe")), [-33])

    def test_each_way(self):
        for word in ("mno", "msy", "mrw", "mqu", "mlk", "mga", "mhc", "mie"):
            self.assertEqual(last(load(5, ALL, word)), [1])
            # The same word again in the corner of a larger square.
            rows = [ALL[k:k + 5] + "zzz" for k in range(0, 25, 5)]
            rows += ["zzzzz" + word, "z" * 8, "z" * 8]
            once = "".join(rows[:5] + ["z" * 8] + rows[6:])
            self.assertEqual(last(load(8, once, word)), [1])
            self.assertEqual(last(load(8, "".join(rows), word)), [-33])

    def test_at_two_places(self):
        self.assertEqual(last(load(3, "abxxxxxab", "ab")), [-33])
        self.assertEqual(last(load(3, "abxxxxxba", "ab")), [-33])
        # Two ways from one cell.
        self.assertEqual(last(load(2, "abbx", "ab")), [-33])
        # Two ways to one cell.
        self.assertEqual(last(load(3, "abaxyz", "ab")), [-33])

    def test_every_word_counts(self):
        self.assertEqual(last(load(3, "abcabxxyz", "xy\nab")), [-33])
        self.assertEqual(last(load(3, "abcabxxyz", "ab\nyz")), [-33])

    def test_same_backwards(self):
        self.assertEqual(last(load(3, "abaxyz", "aba")), [1])
        self.assertEqual(last(load(2, "axbyaz", "aba")), [1])
        self.assertEqual(last(load(3, "abcdefghi", "aba")), [-33])
        self.assertEqual(last(load(3, "abaxyzaba", "aba")), [-33])
        self.assertEqual(last(load(2, "aaxy", "aa")), [1])

    def test_places_that_share_cells(self):
        self.assertEqual(last(load(5, "ababavwxyz", "aba")), [-33])
        self.assertEqual(last(load(3, "aaaxyz", "aa")), [-33])
        self.assertEqual(last(load(5, "abcabvwxyz", "ab")), [-33])
        self.assertEqual(last(load(7, "abcabcatuvwxyz", "abca")), [-33])


class Order(unittest.TestCase):
    def test_which_of_several_refusals(self):
        bad_square = (2, "ab")
        not_right = (2, "xxyz")
        many = listed(PAIRS)
        for listing in ("a", many, "", "ab\nab", "zq"):
            self.assertEqual(last(load(*bad_square, listing)), [-22])
        self.assertEqual(last(load(*not_right, many + "\na")), [-1014])
        self.assertEqual(last(load(*not_right, "ab\nab\na")), [-1003])
        self.assertEqual(last(load(*not_right, many[:-2] + "ab")), [-28])
        self.assertEqual(last(load(*not_right, "")), [-28])
        self.assertEqual(last(load(*not_right, "ab\nba")), [-17])


class Object(unittest.TestCase):
    GOOD = load(3, "catxyzdog", "cat\ndog")
    REFUSED = (
        load(1, "ab", "ab"),
        load(3, "abcdef", "a" * 201),
        load(3, "abcdef", "abc\nd"),
        load(3, "abcdef", ""),
        load(5, ALL, listed(PAIRS)),
        load(3, "abcdef", "abc\ncba"),
        load(3, "abcdef", "ac"),
    )

    def test_refused_without_a_square(self):
        for call in self.REFUSED:
            self.assertEqual(ask(call, hint())[1], [-61])
            self.assertEqual(ask(call, guess(0, 0, 1))[1], [-61])

    def test_refused_in_the_midst(self):
        for call in self.REFUSED:
            told = ask(self.GOOD, guess(1, 0, 2), call, guess(2, 0, 2), hint(), guess(2, 8, 6), hint())
            self.assertLess(told[2][0], 0)
            self.assertEqual(told[3:], [[-17], [1, 6], [1], [-6]])

    def test_loaded_anew_in_the_midst(self):
        told = ask(self.GOOD, guess(0, 0, 2), guess(0, 6, 8), hint(), self.GOOD, hint(), guess(1, 2, 0))
        self.assertEqual(told, [[2], [0], [1], [-6], [2], [0, 0], [0]])

    def test_another_square_in_the_midst(self):
        told = ask(self.GOOD, guess(0, 0, 2), load(2, "xynm", "mn\nxy"), hint(), guess(0, 0, 1), guess(0, 0, 4))
        self.assertEqual(told, [[2], [0], [2], [0, 3], [1], [-22]])

    def test_nobody_went_wrong(self):
        square = load(3, "catxyzdog", "cat")
        refused = load(3, "catxyzdog", "tac\ncow")
        told = ask(square, guess(2, 0, 1), score(2), refused, score(2), square, score(2))
        self.assertEqual(told, [[1], [255], [0, 1], [-33], [0, 1], [1], [0, 0]])


if __name__ == "__main__":
    unittest.main()
