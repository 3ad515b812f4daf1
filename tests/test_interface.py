"""The interface: how calls are handed in and answers are given back."""

import contextlib
import io
import unittest

import hiddenwords.puzzle
from tests.calls import guess, hint, load, make

CALLS = (
    hint() + guess(4, 9, 9) + load(3, "catxyzdog", "cat\ndog\n") + guess(1, 2, 0) + hint() + guess(0, 0, 4)
    + load(3, "cat", "cat") + make(3, 2, 8, "bc\nabc", "x") + hint() + guess(3, 0, 2) + guess(3, 1, 2) + hint()
)
ANSWERS = [1, -61, 1, -61, 1, 2, 1, 0, 2, 1, 6, 1, 255, 1, -22, 1, 8, 2, 0, 1, 1, 1, 1, 0, 1, -6]


class Unchanged(list):
    """A list that says so when somebody would change it."""

    def refuse(self, *given):
        raise AssertionError("what was handed in was to be changed")

    append = clear = extend = insert = pop = remove = reverse = sort = refuse
    __setitem__ = __delitem__ = __iadd__ = __imul__ = refuse


class Interface(unittest.TestCase):
    def test_answers_one_behind_another(self):
        self.assertEqual(hiddenwords.puzzle.answers(CALLS), ANSWERS)

    def test_kinds(self):
        told = hiddenwords.puzzle.answers(CALLS)
        self.assertIs(type(told), list)
        for number in told:
            self.assertIs(type(number), int)

    def test_one_call(self):
        self.assertEqual(hiddenwords.puzzle.answers([3]), [1, -61])
        self.assertEqual(hiddenwords.puzzle.answers([2, 0, 0, 0]), [1, -61])
        self.assertEqual(hiddenwords.puzzle.answers([0, 0, 0, 0]), [1, -22])
        self.assertEqual(hiddenwords.puzzle.answers([1, 0, 0, 0, 0, 0]), [1, -22])

    def test_rows_with_their_lengths(self):
        calls = [0, 2, 4, 97, 98, 99, 100, 3, 97, 98, 10, 3]
        self.assertEqual(hiddenwords.puzzle.answers(calls), [1, 1, 2, 0, 0])
        calls = [1, 2, 3, 4, 2, 97, 98, 1, 120, 3]
        self.assertEqual(hiddenwords.puzzle.answers(calls), [1, 1, 2, 0, 0])

    def test_rows_at_their_longest(self):
        calls = load(8, [97] * 80, [97] * 240) + make(2, 2, 4294967295, [97] * 240, [97] * 80) + hint()
        self.assertEqual(hiddenwords.puzzle.answers(calls), [1, -22, 1, -22, 1, -61])

    def test_three_hundred_calls(self):
        calls = load(3, "catxyz", "cat") + guess(0, 0, 1) * 299
        self.assertEqual(hiddenwords.puzzle.answers(calls), [1, 1] + [1, 255] * 299)

    def test_what_is_handed_in_is_the_same_afterwards(self):
        calls = Unchanged(CALLS)
        self.assertEqual(hiddenwords.puzzle.answers(calls), ANSWERS)
        self.assertEqual(calls, CALLS)

    def test_nothing_is_kept(self):
        first = hiddenwords.puzzle.answers(CALLS)
        first.append(0)
        self.assertEqual(hiddenwords.puzzle.answers(CALLS), ANSWERS)
        self.assertEqual(hiddenwords.puzzle.answers([3]), [1, -61])

    def test_nothing_is_printed(self):
        printed = io.StringIO()
        with contextlib.redirect_stdout(printed), contextlib.redirect_stderr(printed):
            hiddenwords.puzzle.answers(CALLS)
        self.assertEqual(printed.getvalue(), "")

    def test_a_refusal_is_its_number_alone(self):
        self.assertEqual(hiddenwords.puzzle.answers(load(2, "abcd", "ab") + guess(0, 0, 1) + hint())[-2:], [1, -6])

    def test_a_call_that_is_not_there(self):
        with self.assertRaises(hiddenwords.puzzle.UnknownCall):
            hiddenwords.puzzle.answers([8])


if __name__ == "__main__":
    unittest.main()
