"""Promise 4: step."""

import unittest

from tests.helper import HIGHEST, LOWEST, begin, check_refused, given, last, letter, line, run, step

# Letters 0, 1 and 4 are known to both, 2 is the first side's own, 3 the second's.
LETTERS = [begin(), letter(0), letter(0), letter(1), letter(2), letter(0)]
# Lines 0 and 1 make a step on letter 0; lines 0 and 2 clash on letter 1.
SOME = LETTERS + [given(1, 0, 2, 4, 8), given(2, 1, 2, 7, 8), given(2, 1, 3)]
FULL = SOME + [given(1)] * 253


class Step(unittest.TestCase):
    def test_has_all_other_signs_of_both_lines_once(self):
        calls = SOME + [step(0, 1, 0), line(3, 24)]
        self.assertEqual(run(calls)[9:], [[3], [4, 2, 4, 7, 8]])

    def test_leaves_its_two_lines_as_they_were(self):
        calls = SOME + [step(0, 1, 0), line(0, 24), line(1, 24), line(2, 24)]
        self.assertEqual(run(calls)[10:], [[4, 0, 2, 4, 8], [4, 1, 2, 7, 8], [2, 1, 3]])

    def test_on_a_letter_of_each_side(self):
        for side, giver in ((0, 1), (0, 2), (1, 1), (2, 2)):
            calls = [begin(), letter(0), letter(side), given(giver, 2, 0), given(giver, 3)]
            self.assertEqual(run(calls + [step(0, 1, 1), line(2, 24)])[5:], [[2], [1, 0]])

    def test_signs_of_both_sides_meet_in_one_line(self):
        calls = [begin(), letter(0), letter(1), letter(2), given(1, 0, 2), given(2, 1, 5)]
        self.assertEqual(run(calls + [step(0, 1, 0), line(2, 24)])[6:], [[2], [2, 2, 5]])

    def test_from_a_step(self):
        calls = SOME + [step(0, 1, 0), given(1, 3), step(3, 4, 1), line(5, 24)]
        self.assertEqual(run(calls)[9:], [[3], [4], [5], [3, 4, 7, 8]])

    def test_the_same_step_again(self):
        self.assertEqual(run(SOME + [step(0, 1, 0), step(0, 1, 0)])[9:], [[3], [4]])

    def test_comes_to_an_empty_line(self):
        calls = [begin(), letter(0), given(1, 0), given(2, 1), step(0, 1, 0), line(2, 24)]
        self.assertEqual(run(calls)[4:], [[2], [0]])

    def test_comes_to_a_line_of_23_signs(self):
        letters = [begin()] + [letter(0)] * 24
        even = [2 * x for x in range(24)]
        calls = letters + [given(1, *even), given(2, *even[:23], 47), step(0, 1, 23), line(2, 24)]
        self.assertEqual(run(calls)[27:], [[2], [23] + even[:23]])

    def test_no_line_i(self):
        for i in (LOWEST, -3, -1, 3, 4, HIGHEST):
            check_refused(self, SOME, step(i, 1, 0), -1)

    def test_no_line_j(self):
        for j in (LOWEST, -2, -1, 3, 4, HIGHEST):
            check_refused(self, SOME, step(0, j, 0), -1)

    def test_no_lines_at_all(self):
        check_refused(self, LETTERS, step(0, 0, 0), -1)
        check_refused(self, LETTERS, step(-1, -1, 0), -1)

    def test_no_letter_x(self):
        for x in (LOWEST, -5, -1, 5, 24, HIGHEST):
            check_refused(self, SOME, step(0, 1, x), -1)

    def test_i_has_not_the_sign(self):
        check_refused(self, SOME, step(1, 1, 0), -1)
        check_refused(self, SOME, step(2, 1, 0), -1)
        check_refused(self, SOME, step(1, 2, 0), -1)

    def test_j_has_not_the_sign(self):
        check_refused(self, SOME, step(0, 0, 0), -1)
        check_refused(self, SOME, step(0, 1, 1), -1)
        check_refused(self, SOME, step(0, 1, 4), -1)

    def test_the_two_lines_the_wrong_way_round(self):
        check_refused(self, SOME, step(1, 0, 0), -1)

    def test_both_signs_of_another_letter(self):
        check_refused(self, SOME, step(0, 2, 0), -3)
        check_refused(self, SOME, step(0, 2, 1), -3)
        turned = LETTERS + [given(1, 0, 3), given(2, 1, 2)]
        check_refused(self, turned, step(0, 1, 0), -3)

    def test_the_257th_line(self):
        self.assertEqual(last(FULL[:-1] + [step(0, 1, 0)]), [255])
        check_refused(self, FULL, step(0, 1, 0), -2, (0, 1, 2, 255, 256))

    def test_both_signs_come_before_too_many(self):
        check_refused(self, FULL, step(0, 2, 0), -3, (0, 1, 2, 255, 256))

    def test_wrong_comes_before_too_many(self):
        for call in (step(256, 1, 0), step(0, -1, 0), step(0, 1, 5), step(1, 0, 0), step(0, 3, 0)):
            check_refused(self, FULL, call, -1, (0, 1, 2, 255, 256))

    def test_wrong_comes_before_both_signs(self):
        # Lines that clash elsewhere, but j hasn't 2x + 1, or i hasn't 2x.
        check_refused(self, SOME, step(0, 2, 2), -1)
        check_refused(self, SOME, step(2, 0, 0), -1)


if __name__ == "__main__":
    unittest.main()
