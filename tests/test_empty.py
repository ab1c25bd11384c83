"""Promise 7: empty."""

import unittest

from tests.helper import begin, empty, given, last, letter, run, step

LETTERS = [begin(), letter(0), letter(1), letter(2)]


class Empty(unittest.TestCase):
    def test_no_line(self):
        self.assertEqual(last([begin(), empty()]), [-1])
        self.assertEqual(last(LETTERS + [empty()]), [-1])

    def test_all_lines_have_signs(self):
        self.assertEqual(last(LETTERS + [given(1, 0), empty()]), [-1])
        calls = LETTERS + [given(1, 0, 2), given(2, 1), step(0, 1, 0), empty()]
        self.assertEqual(last(calls), [-1])

    def test_the_sign_0_is_a_sign(self):
        self.assertEqual(last(LETTERS + [given(2, 0), empty()]), [-1])

    def test_a_given_line(self):
        for side in (1, 2):
            self.assertEqual(last([begin(), given(side), empty()]), [0])
            self.assertEqual(last(LETTERS + [given(1, 0), given(side), empty()]), [1])

    def test_a_step(self):
        calls = LETTERS + [given(1, 0), given(2, 1), step(0, 1, 0), empty()]
        self.assertEqual(last(calls), [2])
        calls = LETTERS + [given(1, 0, 2), given(2, 1), given(1, 3), step(0, 1, 0), step(3, 2, 1), empty()]
        self.assertEqual(last(calls), [4])

    def test_the_first_of_several(self):
        self.assertEqual(last(LETTERS + [given(2, 4), given(1), given(2), given(1), empty()]), [1])
        steps = LETTERS + [given(1, 0), given(2, 1), step(0, 1, 0), step(0, 1, 0)]
        self.assertEqual(last(steps + [given(1), empty()]), [2])
        self.assertEqual(last(LETTERS + [given(1), given(1, 0), given(2, 1), step(1, 2, 0), empty()]), [0])

    def test_lines_with_signs_behind_it(self):
        self.assertEqual(last(LETTERS + [given(2, 4), given(1), given(1, 0), empty()]), [1])

    def test_the_last_of_256_lines(self):
        calls = [begin(), letter(0)] + [given(1, 0)] * 255 + [given(2)]
        self.assertEqual(last(calls + [empty()]), [255])
        self.assertEqual(last(calls[:-1] + [empty()]), [-1])

    def test_refused_lines_do_not_count(self):
        calls = LETTERS + [given(1, 0), given(0), given(3), step(0, 0, 0), empty()]
        self.assertEqual(run(calls)[4:], [[0], [-1], [-1], [-1], [-1]])

    def test_behind_another_begin(self):
        before = [begin(), given(1), begin()]
        self.assertEqual(last(before + [empty()]), [-1])
        self.assertEqual(last(before + [letter(0), given(1, 1), empty()]), [-1])
        self.assertEqual(last(before + [letter(0), given(1, 1), given(2), empty()]), [1])

    def test_as_lines_come(self):
        calls = LETTERS + [empty(), given(1, 3), empty(), given(2), empty(), given(2), empty()]
        self.assertEqual(run(calls)[4:], [[-1], [0], [-1], [1], [1], [2], [1]])


if __name__ == "__main__":
    unittest.main()
