"""The interface: how calls are handed in and answers are given back."""

import contextlib
import io
import sys
import unittest
from unittest import mock

import hiddenwords.puzzle
from tests.calls import guess, hint, left, load, make, rest, score, tell

# Each call of one list, and the numbers that it adds to the answers.
STEPS = (
    (hint(), [1, -61]),
    (rest(), [1, -61]),
    (left(), [1, -61]),
    (tell(), [1, -61]),
    (score(4), [1, -61]),
    (guess(4, 9, 9), [1, -61]),
    (load(3, "catxyzdog", "cat\ndog\n"), [1, 2]),
    (tell(), [10, 3, 99, 97, 116, 120, 121, 122, 100, 111, 103]),
    (left(), [3, 2, 0, 1]),
    (rest(), [10, 9, 99, 97, 116, 120, 121, 122, 100, 111, 103]),
    (guess(1, 2, 0), [1, 0]),
    (hint(), [2, 1, 6]),
    (guess(0, 0, 4), [1, 255]),
    (score(0), [2, 0, 1]),
    (score(1), [2, 1, 0]),
    (score(4), [1, -22]),
    (rest(), [7, 6, 120, 121, 122, 100, 111, 103]),
    (left(), [2, 1, 1]),
    (load(3, "cat", "cat"), [1, -22]),
    (make(3, 2, 8, "bc\nabc", "x"), [1, 8]),
    (tell(), [7, 3, 97, 98, 99, 120, 120, 120]),
    (score(1), [2, 0, 0]),
    (hint(), [2, 0, 1]),
    (guess(3, 0, 2), [1, 1]),
    (guess(3, 1, 2), [1, 0]),
    (hint(), [1, -6]),
    (left(), [1, 0]),
    (rest(), [4, 3, 120, 120, 120]),
    (score(3), [2, 2, 0]),
)
CALLS = [number for call, added in STEPS for number in call]
ANSWERS = [number for call, added in STEPS for number in added]


class Unchanged(list):
    """A list that says so when somebody would change it."""

    def refuse(self, *given):
        raise AssertionError("what was handed in was to be changed")

    append = clear = extend = insert = pop = remove = reverse = sort = refuse
    __setitem__ = __delitem__ = __iadd__ = __imul__ = refuse


class Interface(unittest.TestCase):
    def test_answers_one_behind_another(self):
        self.assertEqual(hiddenwords.puzzle.answers(CALLS), ANSWERS)

    def test_kinds(self):
        told = hiddenwords.puzzle.answers(CALLS)
        self.assertIs(type(told), list)
        for number in told:
            self.assertIs(type(number), int)

    def test_one_call(self):
        self.assertEqual(hiddenwords.puzzle.answers([3]), [1, -61])
        for call in ([2, 0, 0, 0], [4], [5], [6], [7, 0]):
            self.assertEqual(hiddenwords.puzzle.answers(call), [1, -61])
        self.assertEqual(hiddenwords.puzzle.answers([0, 0, 0, 0]), [1, -22])
        self.assertEqual(hiddenwords.puzzle.answers([1, 0, 0, 0, 0, 0]), [1, -22])

    def test_calls_as_numbers(self):
        calls = [0, 2, 4, 97, 98, 99, 100, 2, 97, 98, 2, 3, 0, 1, 3, 4, 5, 6, 7, 3]
        self.assertEqual(hiddenwords.puzzle.answers(calls),
                         [1, 1, 1, 0, 1, -6, 3, 2, 99, 100, 1, 0, 5, 2, 97, 98, 99, 100, 2, 1, 0])

    def test_each_step_of_the_list(self):
        calls = []
        due = []
        for call, added in STEPS:
            calls += call
            due += added
            self.assertEqual(hiddenwords.puzzle.answers(calls), due)

    def test_rows_with_their_lengths(self):
        calls = [0, 2, 4, 97, 98, 99, 100, 3, 97, 98, 10, 3]
        self.assertEqual(hiddenwords.puzzle.answers(calls), [1, 1, 2, 0, 0])
        calls = [1, 2, 3, 4, 2, 97, 98, 1, 120, 3]
        self.assertEqual(hiddenwords.puzzle.answers(calls), [1, 1, 2, 0, 0])

    def test_rows_at_their_longest(self):
        calls = load(8, [97] * 80, [97] * 240) + make(2, 2, 4294967295, [97] * 240, [97] * 80) + hint()
        self.assertEqual(hiddenwords.puzzle.answers(calls), [1, -22, 1, -22, 1, -61])

    def test_three_hundred_calls(self):
        calls = load(3, "catxyz", "cat") + guess(0, 0, 1) * 299
        self.assertEqual(hiddenwords.puzzle.answers(calls), [1, 1] + [1, 255] * 299)
        calls = make(8, 8, 1, "ab", "x") + tell() * 150 + rest() * 149
        told = [97, 98] + [120] * 62
        self.assertEqual(hiddenwords.puzzle.answers(calls), [1, 1] + ([65, 8] + told) * 150 + ([65, 64] + told) * 149)

    def test_what_is_handed_in_is_the_same_afterwards(self):
        calls = Unchanged(CALLS)
        self.assertEqual(hiddenwords.puzzle.answers(calls), ANSWERS)
        self.assertEqual(calls, CALLS)

    def test_nothing_is_kept(self):
        first = hiddenwords.puzzle.answers(CALLS)
        first.append(0)
        self.assertEqual(hiddenwords.puzzle.answers(CALLS), ANSWERS)
        self.assertEqual(hiddenwords.puzzle.answers([3]), [1, -61])

    def test_nothing_is_printed(self):
        printed = io.StringIO()
        with contextlib.redirect_stdout(printed), contextlib.redirect_stderr(printed):
            hiddenwords.puzzle.answers(CALLS)
        self.assertEqual(printed.getvalue(), "")

    def test_nothing_is_read_or_imported(self):
        refused = AssertionError("something was to be read")
        modules = sorted(sys.modules)
        with mock.patch("builtins.open", side_effect=refused), mock.patch("builtins.input", side_effect=refused):
            with mock.patch("sys.stdin", None), mock.patch("builtins.__import__", side_effect=refused):
                told = hiddenwords.puzzle.answers(CALLS)
        self.assertEqual(told, ANSWERS)
        self.assertEqual(sorted(sys.modules), modules)

    def test_a_refusal_is_its_number_alone(self):
        self.assertEqual(hiddenwords.puzzle.answers(load(2, "abcd", "ab") + guess(0, 0, 1) + hint())[-2:], [1, -6])

    def test_a_call_that_is_not_there(self):
        for call in (8, 9, 4294967295):
            with self.assertRaises(hiddenwords.puzzle.UnknownCall):
                hiddenwords.puzzle.answers([call])


if __name__ == "__main__":
    unittest.main()
