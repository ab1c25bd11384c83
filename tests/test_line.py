"""Promise 5: line."""

import unittest

from tests.helper import HIGHEST, LOWEST, begin, given, last, letter, line, run, step

LETTERS = [begin()] + [letter(0)] * 24
ALL_SIGNS = [2 * x + (x // 2) % 2 for x in range(24)]
# Line 0 has 24 signs, line 1 has three, line 2 none.
SOME = LETTERS + [given(1, *reversed(ALL_SIGNS)), given(2, 40, 3, 9), given(1)]


class Line(unittest.TestCase):
    def test_all_signs_the_least_first(self):
        self.assertEqual(last(SOME + [line(1, 24)]), [3, 3, 9, 40])
        self.assertEqual(last(SOME + [line(0, 24)]), [24] + ALL_SIGNS)

    def test_most_from_1_to_24(self):
        for most in range(1, 25):
            self.assertEqual(last(SOME + [line(0, most)]), [24] + ALL_SIGNS[:most])

    def test_most_smaller_and_greater_than_the_line(self):
        self.assertEqual(last(SOME + [line(1, 1)]), [3, 3])
        self.assertEqual(last(SOME + [line(1, 2)]), [3, 3, 9])
        self.assertEqual(last(SOME + [line(1, 3)]), [3, 3, 9, 40])
        self.assertEqual(last(SOME + [line(1, 4)]), [3, 3, 9, 40])

    def test_most_outside_1_to_24(self):
        for most in (LOWEST, -24, -1, 0, 25, 26, 256, HIGHEST):
            self.assertEqual(last(SOME + [line(0, most)]), [24], most)
            self.assertEqual(last(SOME + [line(1, most)]), [3], most)

    def test_a_line_without_signs(self):
        for most in (LOWEST, 0, 1, 24, 25, HIGHEST):
            self.assertEqual(last(SOME + [line(2, most)]), [0], most)

    def test_no_line_k(self):
        for k in (LOWEST, -3, -1, 3, 4, 256, HIGHEST):
            for most in (LOWEST, 0, 1, 24, 25, HIGHEST):
                self.assertEqual(last(SOME + [line(k, most)]), [-1], (k, most))

    def test_no_lines_at_all(self):
        for k in (-1, 0, 1):
            self.assertEqual(last(LETTERS + [line(k, 24)]), [-1])

    def test_the_last_of_256_lines(self):
        full = [begin(), letter(0)] + [given(1)] * 255 + [given(1, 1)]
        self.assertEqual(last(full + [line(255, 24)]), [1, 1])
        self.assertEqual(last(full + [line(256, 24)]), [-1])

    def test_a_step(self):
        calls = [begin(), letter(0), letter(0), given(1, 3, 0), given(2, 1)]
        self.assertEqual(last(calls + [step(0, 1, 0), line(2, 1)]), [1, 3])

    def test_changes_nothing(self):
        calls = SOME + [line(1, 1), line(7, 1), line(1, 0), line(1, 24), given(1)]
        self.assertEqual(run(calls)[28:], [[3, 3], [-1], [3], [3, 3, 9, 40], [3]])


if __name__ == "__main__":
    unittest.main()
