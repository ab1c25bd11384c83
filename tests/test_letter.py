"""Promise 2: letter."""

import unittest

from tests.helper import HIGHEST, LOWEST, begin, check_refused, given, last, letter, line, run


class Letter(unittest.TestCase):
    def test_numbers_from_0_on(self):
        calls = [begin(), letter(0), letter(1), letter(2), letter(0)]
        self.assertEqual(run(calls), [[0], [0], [1], [2], [3]])

    def test_of_both_sides(self):
        self.assertEqual(last([begin(), letter(0), given(1, 0)]), [0])
        self.assertEqual(last([begin(), letter(0), given(2, 0)]), [0])

    def test_of_the_first_side(self):
        self.assertEqual(last([begin(), letter(1), given(1, 0)]), [0])
        self.assertEqual(last([begin(), letter(1), given(2, 0)]), [-1])

    def test_of_the_second_side(self):
        self.assertEqual(last([begin(), letter(2), given(1, 0)]), [-1])
        self.assertEqual(last([begin(), letter(2), given(2, 0)]), [0])

    def test_24_letters_and_no_more(self):
        answers = run([begin()] + [letter(x % 3) for x in range(25)])
        self.assertEqual(answers, [[0]] + [[x] for x in range(24)] + [[-2]])

    def test_wrong_side(self):
        for side in (LOWEST, -2, -1, 3, 4, HIGHEST):
            check_refused(self, [begin(), letter(1), given(1, 1)], letter(side), -1)

    def test_wrong_side_comes_before_too_many(self):
        full = [begin()] + [letter(0)] * 24
        for side in (LOWEST, -1, 3, HIGHEST):
            check_refused(self, full, letter(side), -1)

    def test_the_25th_changes_nothing(self):
        full = [begin()] + [letter(x % 3) for x in range(24)] + [given(1, 0, 3)]
        for side in (0, 1, 2):
            check_refused(self, full, letter(side), -2)
        self.assertEqual(last(full + [letter(0), given(1, 48)]), [-1])
        self.assertEqual(last(full + [letter(0), given(2, 47)]), [1])

    def test_lines_stay_when_a_letter_comes(self):
        before = [begin(), letter(0), given(1, 1), letter(2)]
        self.assertEqual(last(before + [given(2, 2)]), [1])
        self.assertEqual(last(before + [line(0, 24)]), [1, 1])


if __name__ == "__main__":
    unittest.main()
