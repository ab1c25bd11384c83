"""Promise 1: begin."""

import unittest

from tests.helper import begin, given, last, letter, line, run, step


class Begin(unittest.TestCase):
    def test_at_the_beginning(self):
        self.assertEqual(run([begin()]), [[0]])

    def test_no_letters_at_the_beginning(self):
        self.assertEqual(last([begin(), given(1, 0)]), [-1])
        self.assertEqual(last([begin(), letter(0)]), [0])

    def test_no_lines_at_the_beginning(self):
        self.assertEqual(last([begin(), line(0, 24)]), [-1])
        self.assertEqual(last([begin(), given(1)]), [0])

    def test_again_right_behind_itself(self):
        self.assertEqual(run([begin(), begin(), begin()]), [[0], [0], [0]])

    def test_again_takes_all_lines_away(self):
        before = [begin(), letter(0), given(1, 0), given(2, 1), step(0, 1, 0), begin()]
        self.assertEqual(last(before), [0])
        for k in range(3):
            self.assertEqual(last(before + [line(k, 24)]), [-1])
        self.assertEqual(last(before + [letter(0), step(0, 1, 0)]), [-1])
        self.assertEqual(last(before + [given(1)]), [0])

    def test_again_takes_all_letters_away(self):
        before = [begin(), letter(1), letter(1), begin()]
        self.assertEqual(last(before + [given(1, 0)]), [-1])
        self.assertEqual(last(before + [letter(2)]), [0])
        self.assertEqual(last(before + [letter(2), given(2, 0)]), [0])
        self.assertEqual(last(before + [letter(2), given(1, 0)]), [-1])

    def test_again_when_all_is_full(self):
        letters = [begin()] + [letter(0)] * 24
        self.assertEqual(last(letters + [begin(), letter(0)]), [0])
        lines = [begin()] + [given(1)] * 256
        self.assertEqual(last(lines + [begin(), given(1)]), [0])


if __name__ == "__main__":
    unittest.main()
