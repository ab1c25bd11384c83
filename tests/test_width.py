"""Promise 6: width."""

import unittest

from tests.helper import begin, given, last, letter, run, step, width

LETTERS = [begin()] + [letter(0)] * 24
EVEN = [2 * x for x in range(24)]


class Width(unittest.TestCase):
    def test_no_line(self):
        self.assertEqual(last([begin(), width()]), [0])
        self.assertEqual(last(LETTERS + [width()]), [0])

    def test_all_lines_without_signs(self):
        self.assertEqual(last([begin(), given(1), width()]), [0])
        self.assertEqual(last([begin(), given(1), given(2), given(1), width()]), [0])

    def test_the_longest_is_the_only_one(self):
        self.assertEqual(last(LETTERS + [given(1, 9), width()]), [1])

    def test_the_longest_is_the_first(self):
        calls = LETTERS + [given(1, 0, 2, 4), given(2, 1), given(1), width()]
        self.assertEqual(last(calls), [3])

    def test_the_longest_is_in_the_middle(self):
        calls = LETTERS + [given(1, 0, 2), given(2, 1, 5, 9, 10), given(1, 2, 4, 6), width()]
        self.assertEqual(last(calls), [4])

    def test_the_longest_is_the_last(self):
        calls = LETTERS + [given(1), given(2, 1), given(1, 0, 2, 4), width()]
        self.assertEqual(last(calls), [3])

    def test_several_longest_ones(self):
        self.assertEqual(last(LETTERS + [given(1, 0, 2), given(2, 1, 5), width()]), [2])

    def test_the_longest_is_a_step(self):
        calls = LETTERS + [given(1, 0, 2, 4), given(2, 1, 6, 8), step(0, 1, 0), width()]
        self.assertEqual(last(calls), [4])
        self.assertEqual(last(calls + [given(1, 1, 3, 5), width()]), [4])

    def test_a_step_that_is_shorter(self):
        calls = LETTERS + [given(1, 0, 2), given(2, 1, 2), step(0, 1, 0), width()]
        self.assertEqual(last(calls), [2])

    def test_a_sign_counts_once(self):
        self.assertEqual(last(LETTERS + [given(1, 5, 5, 5, 2, 5), width()]), [2])
        calls = LETTERS + [given(1, 0, 2, 4), given(2, 1, 2, 4), step(0, 1, 0), width()]
        self.assertEqual(last(calls), [3])

    def test_24_signs(self):
        self.assertEqual(last(LETTERS + [given(1, *EVEN, *EVEN), width()]), [24])

    def test_a_great_sign_makes_no_long_line(self):
        self.assertEqual(last(LETTERS + [given(1, 47), width()]), [1])

    def test_the_last_of_256_lines(self):
        calls = [begin(), letter(0), letter(0)] + [given(1, 0)] * 255 + [given(2, 1, 3), width()]
        self.assertEqual(last(calls), [2])

    def test_refused_lines_do_not_count(self):
        before = [begin(), letter(1), letter(0), letter(0), given(1, 2)]
        refused = [given(2, 0, 2, 4), given(1, 2, 4, 5), given(0, 2, 4), step(0, 0, 1)]
        self.assertEqual(run(before + refused + [width()])[5:], [[-1]] * 4 + [[1]])

    def test_behind_another_begin(self):
        before = LETTERS + [given(1, *EVEN), width(), begin()]
        self.assertEqual(last(before + [width()]), [0])
        self.assertEqual(last(before + [letter(2), given(2, 1), width()]), [1])

    def test_as_lines_come(self):
        calls = LETTERS + [width(), given(1), width(), given(1, 3), width(), given(2, 1, 8), width()]
        self.assertEqual(run(calls)[25:], [[0], [0], [0], [1], [1], [2], [2]])


if __name__ == "__main__":
    unittest.main()
